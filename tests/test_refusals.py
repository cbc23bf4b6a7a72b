"""Point 2 and the interface: each refusal of each argument, and which goes first."""

import unittest

from tests.helper import NO_NUMBERS, NO_STANDS, no_answers, refused
from warmcold.ahead import alike, fewest_ahead, how_many, stands_ahead
from warmcold.errors import NoAnswers, NoLength, NoPlace, NoStands
from warmcold.paths import answers_to, can_lie


class LengthTest(unittest.TestCase):
    def test_no_length(self):
        for length in NO_NUMBERS:
            refused(self, NoLength, answers_to, length, 1, [1])
            refused(self, NoLength, can_lie, length, [1], [])
            refused(self, NoLength, how_many, length, [1])
            refused(self, NoLength, alike, length, [1])
            refused(self, NoLength, fewest_ahead, length)
            refused(self, NoLength, stands_ahead, length)

    def test_the_edges_are_lengths(self):
        for length in (1, 60):
            self.assertEqual(answers_to(length, length, [length]), [])
            self.assertEqual(len(can_lie(length, [length], [])), length)
            self.assertEqual(how_many(length, [length]), 1)


class PlaceTest(unittest.TestCase):
    def test_no_place(self):
        for thing in NO_NUMBERS:
            refused(self, NoPlace, answers_to, 60, thing, [1])

    def test_beyond_the_path(self):
        for length in (1, 5, 59):
            refused(self, NoPlace, answers_to, length, length + 1, [1])
            refused(self, NoPlace, answers_to, length, 0, [1])
            self.assertEqual(answers_to(length, length, [1]), [])


class StandsTest(unittest.TestCase):
    def all_refuse(self, length, stands):
        refused(self, NoStands, answers_to, length, 1, stands)
        refused(self, NoStands, can_lie, length, stands, [])
        refused(self, NoStands, how_many, length, stands)
        refused(self, NoStands, alike, length, stands)

    def test_no_stands(self):
        for stands in NO_STANDS:
            self.all_refuse(60, stands)

    def test_beyond_the_path(self):
        for length in (1, 5, 59):
            self.all_refuse(length, [length + 1])
            self.all_refuse(length, [1, length, length + 1])
            self.all_refuse(length, [1] * 39 + [length + 1])

    def test_forty_are_enough_and_one_more_is_none(self):
        for length in (1, 60):
            stands = [length] * 40
            self.assertEqual(answers_to(length, 1, stands), ["same"] * 39)
            self.assertEqual(len(can_lie(length, stands, ["same"] * 39)), length)
            self.assertEqual(how_many(length, stands), 1)
            self.all_refuse(length, stands + [1])
            refused(self, NoStands, can_lie, length, stands + [1], ["same"] * 40)


class AnswersTest(unittest.TestCase):
    def test_no_answers(self):
        for stands in ([], [1], [1, 2], [1, 2, 3], [3] * 40):
            for answers in no_answers(max(0, len(stands) - 1)):
                refused(self, NoAnswers, can_lie, 5, stands, answers)

    def test_too_many_and_too_few(self):
        for many in range(41):
            wanted = max(0, many - 1)
            for other in range(42):
                if other != wanted:
                    refused(self, NoAnswers, can_lie, 60, [7] * many, ["same"] * other)


class OrderTest(unittest.TestCase):
    def test_length_goes_first(self):
        for length in NO_NUMBERS:
            for stands in ([61], None, (1,), [1] * 41):
                refused(self, NoLength, answers_to, length, 1, stands)
                refused(self, NoLength, answers_to, length, None, stands)
                refused(self, NoLength, can_lie, length, stands, [])
                refused(self, NoLength, can_lie, length, stands, None)
                refused(self, NoLength, how_many, length, stands)
                refused(self, NoLength, alike, length, stands)
            refused(self, NoLength, answers_to, length, 0, [1])
            refused(self, NoLength, can_lie, length, [1], ["warm"])

    def test_thing_goes_ahead_of_stands(self):
        for thing in NO_NUMBERS:
            for stands in NO_STANDS:
                refused(self, NoPlace, answers_to, 60, thing, stands)

    def test_stands_go_ahead_of_answers(self):
        for stands in NO_STANDS:
            for answers in no_answers(1):
                refused(self, NoStands, can_lie, 60, stands, answers)

    def test_answered_the_same_after_a_refusal(self):
        stands, answers = [1, 5, 3], ["warm", "warm"]
        before = can_lie(5, stands, answers)
        refused(self, NoAnswers, can_lie, 5, stands, ["warm"])
        refused(self, NoStands, can_lie, 4, stands, answers)
        self.assertEqual(can_lie(5, stands, answers), before)


if __name__ == "__main__":
    unittest.main()
