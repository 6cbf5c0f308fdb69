"""What can be taken back, and done again."""

from beachkept.limits import MOST_TAKEN_BACK
from beachkept.refusals import NONE_THERE


class Moment:
    """All of a beach that a change can change, as it was just then."""

    def __init__(self, beach):
        self.zones = [zone.copied() for zone in beach.zones]
        self.towers = [tower.copied() for tower in beach.towers]
        self.rough = beach.rough
        self.minute = beach.minute
        self.went_in = beach.went_in
        self.rescues = beach.rescues


def go_to(beach, moment):
    """Makes the beach as it was then. The moment is handed over for good: its zones and towers are the beach's now."""
    beach.zones = moment.zones
    beach.towers = moment.towers
    beach.rough = moment.rough
    beach.minute = moment.minute
    beach.went_in = moment.went_in
    beach.rescues = moment.rescues


def note_change(beach, before):
    """Keeps the moment before a change that was just made."""
    beach.earlier.append(before)
    if len(beach.earlier) > MOST_TAKEN_BACK:
        beach.earlier.pop(0)
    beach.taken_back.clear()


def be_back(beach):
    if len(beach.earlier) == 0:
        return [NONE_THERE]
    beach.taken_back.append(Moment(beach))
    go_to(beach, beach.earlier.pop())
    return [len(beach.earlier)]


def be_again(beach):
    if len(beach.taken_back) == 0:
        return [NONE_THERE]
    # There is a place for it among the earlier ones: its own, from which it was taken back.
    beach.earlier.append(Moment(beach))
    go_to(beach, beach.taken_back.pop())
    return [len(beach.taken_back)]
