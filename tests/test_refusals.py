"""Point 2 and the interface: each refusal of each argument, and which goes first."""

import unittest

from tests.helper import DEEP, NO_NUMBERS, NO_STANDS, NO_STRETCHES, no_answers, refused
from warmcold.ahead import alike, fewest_ahead, how_many, stands_ahead
from warmcold.errors import NoAnswers, NoLength, NoPlace, NoStands, NoStretch, TooLong
from warmcold.going import stands_at_all, stands_from, steps_from
from warmcold.paths import answers_to, can_lie
from warmcold.rings import can_lie_round, how_many_round
from warmcold.wrong import fewest_wrong

OF_LENGTH = (fewest_ahead, stands_ahead, stands_at_all)
OF_STANDS = (how_many, alike, how_many_round)
OF_ANSWERS = (can_lie, fewest_wrong, can_lie_round)
OF_STRETCH = (stands_from, steps_from)


class LengthTest(unittest.TestCase):
    def test_no_length(self):
        for length in NO_NUMBERS + (DEEP,):
            refused(self, NoLength, answers_to, length, 1, [1])
            for function in OF_LENGTH:
                refused(self, NoLength, function, length)
            for function in OF_STANDS:
                refused(self, NoLength, function, length, [1])
            for function in OF_ANSWERS:
                refused(self, NoLength, function, length, [1], [])
            for function in OF_STRETCH:
                refused(self, NoLength, function, length, (1, 1), 1)

    def test_the_edges_are_lengths(self):
        for length in (1, 60):
            self.assertEqual(answers_to(length, length, [length]), [])
            self.assertEqual(len(can_lie(length, [length], [])), length)
            self.assertEqual(len(can_lie_round(length, [length], [])), length)
            self.assertEqual(len(fewest_wrong(length, [length], [])[1]), length)
            self.assertEqual(how_many(length, [length]), 1)
            self.assertEqual(how_many_round(length, [length]), 1)


class TooLongTest(unittest.TestCase):
    def check_too_long(self, function, *arguments):
        refused(self, TooLong, function, *arguments)
        with self.assertRaises(TooLong) as caught:
            function(*arguments)
        self.assertEqual(caught.exception.most, 16)

    def test_beyond_sixteen_places(self):
        for length in (17, 18, 32, 59, 60):
            self.check_too_long(stands_at_all, length)
            for function in OF_STRETCH:
                self.check_too_long(function, length, (1, 1), 1)
                self.check_too_long(function, length, (1, length), length)

    def test_sixteen_places_are_not_too_long(self):
        self.assertEqual(stands_at_all(16)[0], 5)
        for function in OF_STRETCH:
            for length in (1, 15, 16):
                self.assertEqual(function(length, (length, length), length), (0, None))

    def test_no_length_beyond_sixty(self):
        for length in (61, 62, 100, 10 ** 39):
            refused(self, NoLength, stands_at_all, length)
            for function in OF_STRETCH:
                refused(self, NoLength, function, length, (1, 1), 1)

    def test_behind_no_length_and_ahead_of_the_others(self):
        for function in OF_STRETCH:
            for length in (17, 60):
                for stretch in NO_STRETCHES:
                    self.check_too_long(function, length, stretch, 1)
                    self.check_too_long(function, length, stretch, None)
                for place in NO_NUMBERS:
                    self.check_too_long(function, length, (1, 2), place)


class PlaceTest(unittest.TestCase):
    def test_no_place(self):
        for place in NO_NUMBERS + (DEEP,):
            refused(self, NoPlace, answers_to, 60, place, [1])
            for function in OF_STRETCH:
                refused(self, NoPlace, function, 16, (1, 16), place)
                refused(self, NoPlace, function, 16, (3, 3), place)

    def test_beyond_the_path(self):
        for length in (1, 5, 59):
            refused(self, NoPlace, answers_to, length, length + 1, [1])
            refused(self, NoPlace, answers_to, length, 0, [1])
            self.assertEqual(answers_to(length, length, [1]), [])
        for function in OF_STRETCH:
            for length in (1, 5, 15, 16):
                refused(self, NoPlace, function, length, (1, length), length + 1)
                refused(self, NoPlace, function, length, (1, 1), length + 1)
                refused(self, NoPlace, function, length, (1, 1), 0)
                self.assertEqual(function(length, (1, 1), length), (0, None))


class StretchTest(unittest.TestCase):
    def test_no_stretch(self):
        for function in OF_STRETCH:
            for stretch in NO_STRETCHES:
                refused(self, NoStretch, function, 16, stretch, 1)

    def test_beyond_the_path(self):
        for function in OF_STRETCH:
            for length in (1, 5, 15, 16):
                refused(self, NoStretch, function, length, (1, length + 1), 1)
                refused(self, NoStretch, function, length, (length + 1, length + 1), 1)
                refused(self, NoStretch, function, length, (0, length), 1)
                self.assertGreaterEqual(function(length, (1, length), 1)[0], 0)

    def test_low_greater_than_high(self):
        for function in OF_STRETCH:
            for low in range(1, 17):
                for high in range(1, low):
                    refused(self, NoStretch, function, 16, (low, high), 1)


class StandsTest(unittest.TestCase):
    def all_refuse(self, length, stands):
        refused(self, NoStands, answers_to, length, 1, stands)
        for function in OF_ANSWERS:
            refused(self, NoStands, function, length, stands, [])
        for function in OF_STANDS:
            refused(self, NoStands, function, length, stands)

    def test_no_stands(self):
        for stands in NO_STANDS:
            self.all_refuse(60, stands)

    def test_beyond_the_path(self):
        for length in (1, 5, 59):
            self.all_refuse(length, [length + 1])
            self.all_refuse(length, [1, length, length + 1])
            self.all_refuse(length, [1] * 39 + [length + 1])

    def test_forty_are_enough_and_one_more_is_none(self):
        for length in (1, 60):
            stands = [length] * 40
            self.assertEqual(answers_to(length, 1, stands), ["same"] * 39)
            self.assertEqual(len(can_lie(length, stands, ["same"] * 39)), length)
            self.assertEqual(len(can_lie_round(length, stands, ["same"] * 39)), length)
            self.assertEqual(fewest_wrong(length, stands, ["same"] * 39)[0], 0)
            self.assertEqual(how_many(length, stands), 1)
            self.assertEqual(how_many_round(length, stands), 1)
            self.all_refuse(length, stands + [1])
            for function in OF_ANSWERS:
                refused(self, NoStands, function, length, stands + [1], ["same"] * 40)


class AnswersTest(unittest.TestCase):
    def test_no_answers(self):
        for function in OF_ANSWERS:
            for stands in ([], [1], [1, 2], [1, 2, 3], [3] * 40):
                for answers in no_answers(max(0, len(stands) - 1)):
                    refused(self, NoAnswers, function, 5, stands, answers)

    def test_too_many_and_too_few(self):
        for function in OF_ANSWERS:
            for many in range(41):
                wanted = max(0, many - 1)
                for other in range(42):
                    if other != wanted:
                        refused(self, NoAnswers, function, 60, [7] * many, ["same"] * other)


class OrderTest(unittest.TestCase):
    def test_length_goes_first(self):
        for length in NO_NUMBERS:
            for stands in ([61], None, (1,), [1] * 41):
                refused(self, NoLength, answers_to, length, 1, stands)
                refused(self, NoLength, answers_to, length, None, stands)
                for function in OF_ANSWERS:
                    refused(self, NoLength, function, length, stands, [])
                    refused(self, NoLength, function, length, stands, None)
                for function in OF_STANDS:
                    refused(self, NoLength, function, length, stands)
            refused(self, NoLength, answers_to, length, 0, [1])
            for function in OF_ANSWERS:
                refused(self, NoLength, function, length, [1], ["warm"])
            for function in OF_STRETCH:
                for stretch in NO_STRETCHES:
                    refused(self, NoLength, function, length, stretch, 1)
                    refused(self, NoLength, function, length, stretch, None)
                refused(self, NoLength, function, length, (1, 1), 0)

    def test_thing_goes_ahead_of_stands(self):
        for thing in NO_NUMBERS:
            for stands in NO_STANDS:
                refused(self, NoPlace, answers_to, 60, thing, stands)

    def test_stands_go_ahead_of_answers(self):
        for function in OF_ANSWERS:
            for stands in NO_STANDS:
                for answers in no_answers(1):
                    refused(self, NoStands, function, 60, stands, answers)

    def test_stretch_goes_ahead_of_place(self):
        for function in OF_STRETCH:
            for stretch in NO_STRETCHES:
                for place in NO_NUMBERS + (17,):
                    refused(self, NoStretch, function, 16, stretch, place)

    def test_answered_the_same_after_a_refusal(self):
        stands, answers = [1, 5, 3], ["warm", "warm"]
        for function in OF_ANSWERS:
            before = function(5, stands, answers)
            refused(self, NoAnswers, function, 5, stands, ["warm"])
            refused(self, NoStands, function, 4, stands, answers)
            self.assertEqual(function(5, stands, answers), before)
        for function in OF_STRETCH:
            before = function(9, (2, 8), 3)
            refused(self, NoStretch, function, 7, (2, 8), 3)
            refused(self, NoPlace, function, 9, (2, 8), 10)
            self.assertEqual(function(9, (2, 8), 3), before)


if __name__ == "__main__":
    unittest.main()
