"""Point 11: a thing on a ring."""

import itertools
import unittest

from tests.helper import WORDS, drawn_answers, drawn_paths, mirrored, rows_of_stands
from warmcold.rings import can_lie_round, how_many_round


def walked(length, start, goal, step):
    """How many places are gone over this way round."""
    many = 0
    while start != goal:
        start = (start - 1 + step) % length + 1
        many += 1
    return many


def far(length, one, other):
    return min(walked(length, one, other, 1), walked(length, one, other, -1))


FAR = {
    (length, one, other): far(length, one, other)
    for length in range(1, 61) for one in range(1, length + 1) for other in range(1, length + 1)
}


def told_round(length, thing, stands):
    row = []
    for earlier, later in itertools.pairwise(stands):
        change = FAR[length, thing, later] - FAR[length, thing, earlier]
        row.append("same" if change == 0 else "warm" if change < 0 else "cold")
    return row


def counted(length, stands, answers):
    return tuple(place for place in range(1, length + 1) if told_round(length, place, stands) == answers)


def counted_rows(length, stands):
    unlike = []
    for place in range(1, length + 1):
        row = told_round(length, place, stands)
        if row not in unlike:
            unlike.append(row)
    return len(unlike)


class CanLieRoundTest(unittest.TestCase):
    def test_by_hand(self):
        cases = (
            # The last place and the first one are neighbours.
            (6, [1, 6], ["warm"], (4, 5, 6)), (6, [1, 6], ["cold"], (1, 2, 3)), (6, [1, 6], ["same"], ()),
            (5, [1, 5], ["warm"], (4, 5)), (5, [1, 5], ["cold"], (1, 2)), (5, [1, 5], ["same"], (3,)),
            # Places across from one another: two places are as far by both ways.
            (8, [1, 5], ["same"], (3, 7)), (8, [1, 5], ["warm"], (4, 5, 6)), (8, [1, 5], ["cold"], (1, 2, 8)),
            (6, [1, 4], ["same"], ()), (6, [1, 4], ["warm"], (3, 4, 5)), (6, [1, 4], ["cold"], (1, 2, 6)),
            (4, [2, 4], ["same"], (1, 3)), (60, [1, 31], ["same"], (16, 46)),
            # The middle between both by the one way, and by the other.
            (8, [1, 3], ["same"], (2, 6)), (7, [1, 3], ["same"], (2,)), (7, [1, 4], ["same"], (6,)),
            (60, [59, 1], ["same"], (30, 60)), (60, [2, 60, 58], ["warm", "same"], (59,)),
            (60, [2, 60, 58], ["cold", "same"], (29,)),
            (3, [1, 2], ["same"], (3,)), (3, [1, 2], ["warm"], (2,)), (2, [1, 2], ["warm"], (2,)),
            (2, [1, 2], ["same"], ()), (1, [1, 1], ["same"], (1,)), (1, [1, 1], ["cold"], ()),
        )
        for length, stands, answers, places in cases:
            with self.subTest(length=length, stands=stands, answers=answers):
                self.assertEqual(can_lie_round(length, stands, answers), places)

    def test_the_whole_ring_without_an_answer(self):
        for length in (1, 2, 3, 60):
            whole = tuple(range(1, length + 1))
            self.assertEqual(can_lie_round(length, [], []), whole)
            self.assertEqual(can_lie_round(length, [length], []), whole)
            self.assertEqual(can_lie_round(length, [length] * 40, ["same"] * 39), whole)

    def test_every_move_on_every_ring(self):
        for length in (1, 2, 3, 4, 5, 6, 7, 59, 60):
            for earlier in range(1, length + 1):
                for later in {1, 2, length // 2, length // 2 + 1, length - 1, length, earlier}:
                    if 1 <= later <= length:
                        for word in WORDS:
                            wanted = counted(length, [earlier, later], [word])
                            self.assertEqual(can_lie_round(length, [earlier, later], [word]), wanted)

    def test_all_answers_of_short_rings(self):
        for length in range(1, 6):
            for stands in rows_of_stands(length, 3):
                for answers in itertools.product(WORDS, repeat=max(0, len(stands) - 1)):
                    wanted = counted(length, stands, list(answers))
                    self.assertEqual(can_lie_round(length, stands, list(answers)), wanted)

    def test_drawn_rings(self):
        for length, stands in drawn_paths():
            for thing in (1, (length + 1) // 2, length):
                answers = told_round(length, thing, stands)
                wanted = counted(length, stands, answers)
                self.assertIn(thing, wanted)
                self.assertEqual(can_lie_round(length, stands, answers), wanted)
            answers = drawn_answers(stands[:4], length)
            self.assertEqual(can_lie_round(length, stands[:4], answers), counted(length, stands[:4], answers))

    def test_seen_in_a_mirror(self):
        for length, stands in drawn_paths():
            answers = drawn_answers(stands[:3], length)
            there = can_lie_round(length, mirrored(length, stands[:3]), answers)
            here = can_lie_round(length, stands[:3], answers)
            self.assertEqual(there, tuple(sorted(mirrored(length, here))))

    def test_turned_round(self):
        for length, stands in drawn_paths():
            answers = drawn_answers(stands[:3], length)
            turned = [stand % length + 1 for stand in stands[:3]]
            here = can_lie_round(length, stands[:3], answers)
            self.assertEqual(can_lie_round(length, turned, answers), tuple(sorted(place % length + 1 for place in here)))

    def test_kinds_of_values(self):
        for places in (can_lie_round(3, [], []), can_lie_round(3, [1, 1], ["warm"])):
            self.assertIs(type(places), tuple)
            self.assertTrue(all(type(place) is int for place in places))

    def test_the_same_asked_again(self):
        stands, answers = [1, 10, 6], ["cold", "warm"]
        self.assertEqual(can_lie_round(10, stands, answers), can_lie_round(10, stands, answers))
        self.assertEqual((stands, answers), ([1, 10, 6], ["cold", "warm"]))


class HowManyRoundTest(unittest.TestCase):
    def test_by_hand(self):
        cases = (
            (1, [], 1), (1, [1, 1], 1), (2, [1, 2], 2), (3, [1, 2], 3), (3, [1, 2, 3], 3), (4, [1, 2], 2), (5, [1, 2], 3),
            (6, [1, 4], 2), (8, [1, 5], 3), (8, [], 1), (8, [3], 1), (8, [1, 5, 3], 6), (60, [1, 60], 2), (60, [1, 31], 3),
            (60, [30] * 40, 1),
        )
        for length, stands, many in cases:
            with self.subTest(length=length, stands=stands):
                self.assertEqual(how_many_round(length, stands), many)

    def test_against_a_count_on_short_rings(self):
        for length in range(1, 7):
            for stands in rows_of_stands(length, 4):
                self.assertEqual(how_many_round(length, stands), counted_rows(length, stands))

    def test_against_a_count_on_drawn_rings(self):
        for length, stands in drawn_paths():
            for many in (2, 3, 40):
                self.assertEqual(how_many_round(length, stands[:many]), counted_rows(length, stands[:many]))

    def test_a_whole_number(self):
        self.assertIs(type(how_many_round(4, [])), int)

    def test_the_stands_stay_as_they_were(self):
        stands = [1, 5, 5, 2]
        self.assertEqual(how_many_round(5, stands), how_many_round(5, stands))
        self.assertEqual(stands, [1, 5, 5, 2])


if __name__ == "__main__":
    unittest.main()
