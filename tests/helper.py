"""What the tests share: a second telling of the answers, and values that are none."""

import copy
import itertools

WORDS = ("warm", "cold", "same")

# Of the kinds that point 2 names; none of them is a whole number from 1 to 60.
NO_NUMBERS = (
    True, False, None, "", "1", "warm", "~" * 100, [], [1], [[1]], (), (1,), ((1, 2), None),
    0, -1, -60, 61, 10 ** 39, -(10 ** 39), [1] * 100,
)

DEEP = [[[[[[[[[[1]]]]]]]]]]

NO_STANDS = (
    True, False, None, "", "1", "12", 0, 1, -1, 10 ** 39, (), (1,), (1, 2), ("warm",), DEEP,
    [True], [False], [None], ["1"], ["warm"], [0], [-1], [61], [10 ** 39], [-(10 ** 39)], [[1]], [(1,)],
    [1, True], [1, None], [1, 1, 0], [1] * 39 + [True], [1] * 41, [1] * 100, [None] * 41,
)

# None of them is a stretch of any path.
NO_STRETCHES = (
    True, False, None, "", "12", 0, 1, -1, 10 ** 39, [], [1, 2], [1, 1], DEEP, (), (1,), (1, 2, 3), (1, 1, 1), ((1, 2),),
    (2, 1), (1, 0), (0, 1), (0, 0), (-1, 1), (-2, -1), (1, 61), (61, 61), (1, 10 ** 39), (-(10 ** 39), 1),
    (True, 2), (1, True), (False, 1), (True, True), (None, 1), (1, None), (None, None), ("1", "2"), (1, "2"),
    ([1], [2]), (1, [2]), ((1,), (2,)), ((1, 2), (1, 2)), (1,) * 100,
)

NO_WORDS = (
    True, False, None, 0, 1, -1, 10 ** 39, "", "Warm", "WARM", "warm ", " cold", "hot", "s", "warmcold", "~" * 100,
    [], (), ["warm"], ("warm",), ("warm", "cold", "same"), DEEP,
)


def no_answers(many):
    """Values that are no answers to stands that want so many words."""
    good = ["warm"] * many
    values = [
        True, False, None, "", "warm", 0, 1, -1, 10 ** 39, (), tuple(good), ("warm",), DEEP,
        good + ["warm"], good + [None], good + [[]], ["same"] * 100,
    ]
    if many:
        values.append([])
        values.append(good[1:])
        for word in NO_WORDS:
            values.append([word] + good[1:])
            values.append(good[1:] + [word])
    return values


def told_by_middle(place, earlier, later):
    """The answer by the middle of both stands, as point 5 puts it, not by distances."""
    if earlier == later or 2 * place == earlier + later:
        return "same"
    side_of_later = 1 if later > earlier else -1
    return "warm" if (2 * place - earlier - later) * side_of_later > 0 else "cold"


def told_row(place, stands):
    return [told_by_middle(place, stands[at - 1], stands[at]) for at in range(1, len(stands))]


def told_rows(length, stands):
    return [told_row(place, stands) for place in range(1, length + 1)]


def all_apart(length, stands):
    rows = [tuple(row) for row in told_rows(length, stands)]
    return len(set(rows)) == length


def rows_of_stands(length, most):
    """Every row of at most so many stands."""
    for many in range(most + 1):
        for row in itertools.product(range(1, length + 1), repeat=many):
            yield list(row)


def drawn_stands(length, seed):
    """A row of stands that looks drawn, the same one for the same seed."""
    many = (seed * 7 + length) % 41
    stands, state = [], seed * 1009 + length
    for _ in range(many):
        state = (state * 1103515245 + 12345) % 2147483648
        stands.append(state // 65536 % length + 1)
    return stands


def drawn_paths():
    """Pairs of a length and stands, short and long ones."""
    for length in range(1, 61):
        for seed in range(12):
            yield length, drawn_stands(length, seed)


def drawn_answers(stands, seed):
    """Answers that look drawn, most often not all of them right for one place."""
    answers, state = [], seed * 7919 + len(stands)
    for _ in stands[1:]:
        state = (state * 1103515245 + 12345) % 2147483648
        answers.append(WORDS[state // 65536 % 3])
    return answers


def all_stretches(length):
    return [(low, high) for low in range(1, length + 1) for high in range(low, length + 1)]


def mirrored(length, places):
    return [length + 1 - place for place in places]


def refused(test, wanted, function, *arguments):
    """The call is refused with just this error, and what was handed in stays as it was."""
    before = copy.deepcopy(arguments)
    with test.assertRaises(wanted, msg=f"{function.__name__}{arguments!r}") as caught:
        function(*arguments)
    test.assertIs(type(caught.exception), wanted, f"{function.__name__}{arguments!r}")
    test.assertEqual(repr(arguments), repr(before))
