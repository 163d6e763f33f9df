"""Between which bounds the best worths lie behind some rounds, and the plan of these rounds."""

from chancehall.errors import NoNumber
from chancehall.levels import greatest, least
from chancehall.mending import mended
from chancehall.plans import first_plan
from chancehall.ratios import NOUGHT, ONE, is_ratio, minus, over, plus, times, under
from chancehall.rounds import MOST, best_round, best_rounds
from chancehall.wholes import is_whole


def check_behind(many):
    """NoNumber where a thing of any kind is no number of rounds behind which there are bounds."""
    if not is_whole(many) or not 1 <= many <= MOST:
        raise NoNumber("bounds are told behind a whole number of rounds from 1 to 40")


def gains(ahead, last):
    """What each room has more in the last round than in the one ahead."""
    return [minus(one, other) for one, other in zip(last, ahead)]


def to_come(share, gain):
    """All that comes later, where each round gains the share of what the one ahead did."""
    return times(over(share, minus(ONE, share)), gain)


def distance(share, ahead, last):
    """How far the highs are above the lows, in every room alike; there is a room."""
    gained = gains(ahead, last)
    return to_come(share, minus(greatest(gained), least(gained)))


def bounds_of(hall, many):
    """The tuple (lows, highs) behind so many rounds."""
    check_behind(many)
    rounds = best_rounds(hall, many)
    last = rounds[-1]
    if len(last) == 0:
        return ([], [])
    gained = gains(rounds[-2], last)
    low = to_come(hall.share, least(gained))
    high = to_come(hall.share, greatest(gained))
    return ([plus(one, low) for one in last], [plus(one, high) for one in last])


def round_plan(hall, many):
    """The plan that takes in each room the first door with the greatest look by the round ahead of the last."""
    check_behind(many)
    # From door 0 on a door is left for the first of the greatest ones alone, so mending finds just these.
    return mended(hall, first_plan(hall), best_rounds(hall, many - 1)[-1])


def rounds_to(hall, gap, most):
    """The least number of rounds up to the most behind which highs are at most the gap above lows, or None."""
    if not is_ratio(gap):
        raise NoNumber("a gap is a fraction")
    check_behind(most)
    if hall.size() == 0:
        return 1
    # Highs are never below lows, so there is nothing to look for.
    if under(gap, NOUGHT):
        return None
    ahead = [NOUGHT] * hall.size()
    # Round by round, as numbers grow with each of them: no more rounds are reckoned than are needed.
    for many in range(1, most + 1):
        last = best_round(hall, ahead)
        if not under(gap, distance(hall.share, ahead, last)):
            return many
        ahead = last
    return None
