"""Point 10: how many answers must be wrong, at least, and where the thing lies then."""

import itertools
import unittest

from tests.helper import WORDS, drawn_answers, drawn_paths, mirrored, rows_of_stands, told_row
from warmcold.paths import answers_to, can_lie
from warmcold.wrong import fewest_wrong


def counted(length, stands, answers):
    wrong = {}
    for place in range(1, length + 1):
        row = told_row(place, stands)
        wrong[place] = len([at for at in range(len(answers)) if row[at] != answers[at]])
    least = min(wrong.values())
    return (least, tuple(sorted(place for place in wrong if wrong[place] == least)))


class FewestWrongTest(unittest.TestCase):
    def test_by_hand(self):
        cases = (
            (5, [1, 5], ["warm"], (0, (4, 5))),
            (5, [1, 4], ["same"], (1, (1, 2, 3, 4, 5))),
            (5, [3, 3], ["warm"], (1, (1, 2, 3, 4, 5))),
            (5, [1, 5, 1], ["warm", "warm"], (1, (1, 2, 4, 5))),
            (5, [1, 5, 1, 5], ["warm", "warm", "warm"], (1, (4, 5))),
            (5, [1, 5, 1, 5], ["warm", "same", "same"], (1, (3,))),
            (1, [1, 1, 1], ["warm", "cold"], (2, (1,))),
            (60, [30] * 40, ["warm"] * 39, (39, tuple(range(1, 61)))),
            (60, [1, 60] * 20, ["warm"] * 39, (19, tuple(range(31, 61)))),
        )
        for length, stands, answers, wanted in cases:
            with self.subTest(length=length, stands=stands, answers=answers):
                self.assertEqual(fewest_wrong(length, stands, answers), wanted)

    def test_no_stands_and_one_stand(self):
        for length in (1, 2, 60):
            whole = tuple(range(1, length + 1))
            self.assertEqual(fewest_wrong(length, [], []), (0, whole))
            for stand in (1, length):
                self.assertEqual(fewest_wrong(length, [stand], []), (0, whole))

    def test_all_answers_of_short_paths(self):
        for length in range(1, 5):
            for stands in rows_of_stands(length, 4):
                for answers in itertools.product(WORDS, repeat=max(0, len(stands) - 1)):
                    wanted = counted(length, stands, list(answers))
                    self.assertEqual(fewest_wrong(length, stands, list(answers)), wanted)

    def test_drawn_answers(self):
        for length, stands in drawn_paths():
            for seed in range(4):
                answers = drawn_answers(stands, seed)
                self.assertEqual(fewest_wrong(length, stands, answers), counted(length, stands, answers))

    def test_right_answers_but_for_some(self):
        for length, stands in drawn_paths():
            answers = answers_to(length, (length + 1) // 2, stands)
            for at in (0, len(answers) // 2, len(answers) - 1):
                if answers:
                    answers[at] = "cold" if answers[at] == "same" else "same"
                self.assertEqual(fewest_wrong(length, stands, answers), counted(length, stands, answers))

    def test_right_answers(self):
        for length, stands in drawn_paths():
            for thing in (1, (length + 1) // 2, length):
                answers = answers_to(length, thing, stands)
                self.assertEqual(fewest_wrong(length, stands, answers), (0, can_lie(length, stands, answers)))

    def test_none_is_wrong_just_where_the_thing_can_lie(self):
        for length, stands in drawn_paths():
            cut = stands[:4]
            for seed in range(3):
                answers = drawn_answers(cut, seed)
                least, places = fewest_wrong(length, cut, answers)
                self.assertEqual(least == 0, can_lie(length, cut, answers) != ())
                if least == 0:
                    self.assertEqual(places, can_lie(length, cut, answers))

    def test_seen_in_a_mirror(self):
        for length, stands in drawn_paths():
            answers = drawn_answers(stands, 5)
            least, places = fewest_wrong(length, stands, answers)
            turned = fewest_wrong(length, mirrored(length, stands), answers)
            self.assertEqual(turned, (least, tuple(sorted(mirrored(length, places)))))

    def test_kinds_of_values(self):
        for told in (fewest_wrong(3, [], []), fewest_wrong(3, [1, 1], ["warm"])):
            self.assertIs(type(told), tuple)
            self.assertEqual([type(part) for part in told], [int, tuple])
            self.assertTrue(all(type(place) is int for place in told[1]))

    def test_the_same_asked_again(self):
        stands, answers = [1, 10, 6, 1], ["warm", "warm", "warm"]
        self.assertEqual(fewest_wrong(10, stands, answers), fewest_wrong(10, stands, answers))
        self.assertEqual((stands, answers), ([1, 10, 6, 1], ["warm", "warm", "warm"]))


if __name__ == "__main__":
    unittest.main()
