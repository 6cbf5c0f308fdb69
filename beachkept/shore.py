"""What a beach is made of: its shore, zones and towers, and how far things have gone there."""


class Zone:
    """A stretch to swim in."""

    def __init__(self, begin, end):
        self.begin = begin
        self.end = end
        self.red = 0
        self.swimmers = 0

    def copied(self):
        other = Zone(self.begin, self.end)
        other.red = self.red
        other.swimmers = self.swimmers
        return other


class Tower:
    """A place to watch from, with its guard."""

    def __init__(self, at, reach):
        self.at = at
        self.reach = reach
        self.on_duty = 0
        self.away_until = 0

    def copied(self):
        other = Tower(self.at, self.reach)
        other.on_duty = self.on_duty
        other.away_until = self.away_until
        return other


class Beach:
    """One beach. Until it is started there is no shore, and nothing is asked of it."""

    def __init__(self):
        self.start_anew(0, 0)

    def start_anew(self, length, each):
        self.length = length
        self.each = each
        self.zones = []
        self.towers = []
        self.rough = 0
        self.minute = 0
        self.went_in = 0
        self.rescues = 0
        # The moments before the last changes, and those from which changes were taken back; the last is the nearest.
        self.earlier = []
        self.taken_back = []
