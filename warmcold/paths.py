"""What is answered on a path, and where the thing can lie."""

from warmcold.checks import check_answers, check_length, check_place, check_stands


def word_for(before, after):
    """The answer where it was so far to the thing, and is now so far."""
    if after < before:
        return "warm"
    if after > before:
        return "cold"
    return "same"


def answer_to_move(thing, earlier, later):
    return word_for(abs(thing - earlier), abs(thing - later))


def row_of_answers(thing, stands):
    return [answer_to_move(thing, earlier, later) for earlier, later in zip(stands, stands[1:])]


def answers_to(length, thing, stands):
    """The list of what is answered to the stands, of a thing at this place."""
    check_length(length)
    check_place(thing, length)
    check_stands(stands, length)
    return row_of_answers(thing, stands)


def can_lie(length, stands, answers):
    """All places at which the thing can lie so that just this is answered, rising."""
    check_length(length)
    check_stands(stands, length)
    check_answers(answers, stands)
    return tuple([place for place in range(1, length + 1) if row_of_answers(place, stands) == answers])
