"""Wrong answers: how many there must be, at least."""

from warmcold.checks import check_answers, check_length, check_stands
from warmcold.paths import row_of_answers


def count_wrong(thing, stands, answers):
    right = row_of_answers(thing, stands)
    return sum([1 for told, due in zip(answers, right) if told != due])


def fewest_wrong(length, stands, answers):
    """The least number of wrong answers, and all places at which just so many are, rising."""
    check_length(length)
    check_stands(stands, length)
    check_answers(answers, stands)
    places = list(range(1, length + 1))
    counts = [count_wrong(place, stands, answers) for place in places]
    least = min(counts)
    return (least, tuple([place for place, count in zip(places, counts) if count == least]))
