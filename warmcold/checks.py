"""Whether what is handed in is what it should be; each check refuses or does nothing."""

from warmcold.errors import NoAnswer, NoAnswers, NoLength, NoPlace, NoStands, NoStretch, TooLong

LONGEST_PATH = 60
LONGEST_GOING = 16
MOST_STANDS = 40
WORDS = ("warm", "cold", "same")


def is_whole(value):
    # Python counts True and False among the ints; here they are no numbers.
    return isinstance(value, int) and not isinstance(value, bool)


def is_place(value, length):
    return is_whole(value) and 1 <= value <= length


def is_word(value):
    return isinstance(value, str) and value in WORDS


def check_length(length):
    if not is_place(length, LONGEST_PATH):
        raise NoLength(f"a length is a whole number from 1 to {LONGEST_PATH}")


def check_going_length(length):
    check_length(length)
    if length > LONGEST_GOING:
        raise TooLong(LONGEST_GOING)


def check_place(place, length):
    if not is_place(place, length):
        raise NoPlace(f"a place is a whole number from 1 to {length}")


def check_stands(stands, length):
    if not isinstance(stands, list) or len(stands) > MOST_STANDS:
        raise NoStands(f"stands are a list of at most {MOST_STANDS} places")
    if not all([is_place(stand, length) for stand in stands]):
        raise NoStands(f"each stand is a whole number from 1 to {length}")


def check_answers(answers, stands):
    # Nothing is answered to the first stand, and without stands there is no first one.
    wanted = max(0, len(stands) - 1)
    if not isinstance(answers, list) or len(answers) != wanted:
        raise NoAnswers(f"answers to these stands are a list of {wanted} words")
    if not all([is_word(answer) for answer in answers]):
        raise NoAnswers("each answer is warm, cold or same")


def check_answer(word):
    if not is_word(word):
        raise NoAnswer("an answer is warm, cold or same")


def check_stretch(stretch, length):
    if not isinstance(stretch, tuple) or len(stretch) != 2:
        raise NoStretch("a stretch is a tuple of two places")
    low, high = stretch
    if not is_place(low, length) or not is_place(high, length) or low > high:
        raise NoStretch(f"a stretch goes from a place to one no less, both from 1 to {length}")
