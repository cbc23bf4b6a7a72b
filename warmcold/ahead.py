"""Stands told ahead: which places they tell apart, and the fewest that tell all apart."""

from warmcold.checks import check_length, check_stands
from warmcold.paths import row_of_answers


def rows_of_all_places(length, stands):
    return [tuple(row_of_answers(place, stands)) for place in range(1, length + 1)]


def how_many(length, stands):
    """How many unlike rows of answers can come."""
    check_length(length)
    check_stands(stands, length)
    return len(set(rows_of_all_places(length, stands)))


def alike(length, stands):
    """The first pair of places that are not told apart, None where there is none."""
    check_length(length)
    check_stands(stands, length)
    rows = rows_of_all_places(length, stands)
    # Answers change in one direction along the path, so places between two that
    # are alike are alike, too: the first pair is always one of neighbours.
    for place in range(1, length):
        if rows[place - 1] == rows[place]:
            return (place, place + 1)
    return None


def fewest_ahead(length):
    """The fewest stands that tell all places apart."""
    return len(stands_ahead(length))


def stands_ahead(length):
    """As few stands as can be that tell all places apart."""
    check_length(length)
    if length == 1:
        return []
    # A move parts neighbours only at its middle: at two borders where the middle
    # is a place, at one where it lies between two. There are length - 1 borders,
    # so no row of stands has fewer moves than half of that, rounded up. Moves by
    # two places part two new borders each; a path of even length has one left.
    stands = list(range(1, length + 1, 2))
    if length % 2 == 0:
        stands.append(length)
    return stands
