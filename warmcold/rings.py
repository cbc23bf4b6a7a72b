"""A thing on a ring: behind the last place the first one follows."""

from warmcold.checks import check_answers, check_length, check_stands
from warmcold.paths import word_for


def far_round(length, one, other):
    """How far it is by the shorter way round."""
    along = abs(one - other)
    return min(along, length - along)


def row_round(length, thing, stands):
    far = [far_round(length, thing, stand) for stand in stands]
    return [word_for(before, after) for before, after in zip(far, far[1:])]


def can_lie_round(length, stands, answers):
    """All places of the ring at which the thing can lie so that just this is answered, rising."""
    check_length(length)
    check_stands(stands, length)
    check_answers(answers, stands)
    return tuple([place for place in range(1, length + 1) if row_round(length, place, stands) == answers])


def how_many_round(length, stands):
    """How many unlike rows of answers can come on the ring."""
    check_length(length)
    check_stands(stands, length)
    rows = [tuple(row_round(length, place, stands)) for place in range(1, length + 1)]
    return len(set(rows))
