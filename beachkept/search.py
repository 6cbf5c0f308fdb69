"""The calls about a search. They ask nothing of the beach."""

from beachkept.limits import LAST_PASS, MOST_SEARCHERS, MOST_SIGHT, WIDEST_SEARCH, is_within
from beachkept.refusals import WRONG


def can_search(n, sight):
    return is_within(n, 1, MOST_SEARCHERS) and is_within(sight, 1, MOST_SIGHT)


def be_passes(wide, n, sight):
    if not can_search(n, sight) or wide > WIDEST_SEARCH:
        return [WRONG]
    seen_at_once = n * sight
    return [(wide + seen_at_once - 1) // seen_at_once]


def be_lane(n, sight, turn, k):
    if not can_search(n, sight) or turn > LAST_PASS or k >= n:
        return [WRONG]
    seen_before = turn * n * sight + k * sight
    # In half metres: twice what lies before, and half of what this searcher sees.
    return [2 * seen_before + sight]
