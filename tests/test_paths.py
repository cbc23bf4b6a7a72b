"""Points 4 and 5: what is answered, and where the thing can lie."""

import itertools
import unittest

from tests.helper import WORDS, drawn_paths, rows_of_stands, told_row
from warmcold.paths import answers_to, can_lie


class AnswersTest(unittest.TestCase):
    def test_by_hand(self):
        cases = (
            (5, 3, [1, 2], ["warm"]),
            (5, 3, [2, 1], ["cold"]),
            (5, 3, [2, 4], ["same"]),
            (5, 3, [3, 3], ["same"]),
            (5, 1, [4, 4], ["same"]),
            (5, 1, [5, 1, 5, 1], ["warm", "cold", "warm"]),
            (5, 5, [5, 1, 5, 1], ["cold", "warm", "cold"]),
            (5, 3, [5, 1, 5, 1], ["same", "same", "same"]),
            (10, 4, [1, 8, 7, 3, 3, 5, 10], ["cold", "warm", "warm", "same", "same", "cold"]),
            (10, 10, [1, 10], ["warm"]),
            (10, 6, [1, 10], ["warm"]),
            (10, 5, [1, 10], ["cold"]),
            (2, 1, [1, 2], ["cold"]),
            (2, 2, [1, 2], ["warm"]),
        )
        for length, thing, stands, answers in cases:
            with self.subTest(thing=thing, stands=stands):
                self.assertEqual(answers_to(length, thing, stands), answers)

    def test_no_stands_and_one_stand(self):
        for length in (1, 2, 60):
            for place in (1, length):
                self.assertEqual(answers_to(length, place, []), [])
                self.assertEqual(answers_to(length, place, [1]), [])
                self.assertEqual(answers_to(length, place, [length]), [])

    def test_a_path_of_one_place(self):
        self.assertEqual(answers_to(1, 1, [1, 1]), ["same"])
        self.assertEqual(answers_to(1, 1, [1] * 40), ["same"] * 39)

    def test_the_longest_path_and_forty_stands(self):
        self.assertEqual(answers_to(60, 60, list(range(1, 41))), ["warm"] * 39)
        self.assertEqual(answers_to(60, 1, list(range(21, 61))), ["cold"] * 39)
        self.assertEqual(answers_to(60, 20, list(range(1, 41))), ["warm"] * 19 + ["cold"] * 20)
        self.assertEqual(answers_to(60, 30, [1, 60] * 20), (["cold", "warm"] * 20)[:39])
        self.assertEqual(answers_to(60, 31, [1, 60] * 20), (["warm", "cold"] * 20)[:39])

    def test_the_same_place_stood_at_twice(self):
        for thing in range(1, 8):
            self.assertEqual(answers_to(7, thing, [5, 5]), ["same"])
        self.assertEqual(answers_to(7, 2, [5, 5, 4, 5, 5]), ["same", "warm", "cold", "same"])

    def test_like_the_middle_tells(self):
        for length, stands in drawn_paths():
            for thing in range(1, length + 1):
                self.assertEqual(answers_to(length, thing, stands), told_row(thing, stands))

    def test_each_list_is_new(self):
        for stands in ([], [3], [1, 4, 2]):
            one = answers_to(5, 2, stands)
            other = answers_to(5, 2, stands)
            self.assertIs(type(one), list)
            self.assertEqual(one, other)
            self.assertIsNot(one, other)
            self.assertIsNot(one, stands)
            one.append("warm")
            self.assertEqual(answers_to(5, 2, stands), other)

    def test_the_stands_stay_as_they_were(self):
        stands = [1, 5, 5, 2]
        answers_to(5, 2, stands)
        self.assertEqual(stands, [1, 5, 5, 2])


class CanLieTest(unittest.TestCase):
    def test_the_whole_path_without_an_answer(self):
        for length in (1, 2, 7, 60):
            whole = tuple(range(1, length + 1))
            self.assertEqual(can_lie(length, [], []), whole)
            for stand in range(1, length + 1):
                self.assertEqual(can_lie(length, [stand], []), whole)

    def test_an_even_distance(self):
        self.assertEqual(can_lie(7, [2, 6], ["warm"]), (5, 6, 7))
        self.assertEqual(can_lie(7, [2, 6], ["cold"]), (1, 2, 3))
        self.assertEqual(can_lie(7, [2, 6], ["same"]), (4,))
        self.assertEqual(can_lie(7, [6, 2], ["warm"]), (1, 2, 3))
        self.assertEqual(can_lie(7, [6, 2], ["cold"]), (5, 6, 7))
        self.assertEqual(can_lie(7, [6, 2], ["same"]), (4,))

    def test_an_odd_distance(self):
        self.assertEqual(can_lie(7, [2, 5], ["warm"]), (4, 5, 6, 7))
        self.assertEqual(can_lie(7, [2, 5], ["cold"]), (1, 2, 3))
        self.assertEqual(can_lie(7, [2, 5], ["same"]), ())
        self.assertEqual(can_lie(7, [5, 2], ["warm"]), (1, 2, 3))
        self.assertEqual(can_lie(7, [5, 2], ["cold"]), (4, 5, 6, 7))

    def test_both_the_same_place(self):
        self.assertEqual(can_lie(4, [3, 3], ["same"]), (1, 2, 3, 4))
        self.assertEqual(can_lie(4, [3, 3], ["warm"]), ())
        self.assertEqual(can_lie(4, [3, 3], ["cold"]), ())
        self.assertEqual(can_lie(1, [1, 1], ["same"]), (1,))
        self.assertEqual(can_lie(1, [1, 1], ["warm"]), ())

    def test_several_answers(self):
        self.assertEqual(can_lie(10, [1, 10, 6], ["warm", "warm"]), (6, 7))
        self.assertEqual(can_lie(10, [1, 10, 6, 7], ["warm", "warm", "warm"]), (7,))
        self.assertEqual(can_lie(10, [1, 10, 1], ["warm", "warm"]), ())
        self.assertEqual(can_lie(60, [1, 60, 30], ["warm", "warm"]), tuple(range(31, 45)))
        self.assertEqual(can_lie(60, list(range(1, 41)), ["warm"] * 39), tuple(range(40, 61)))

    def test_all_answers_of_short_paths(self):
        for length in range(1, 5):
            for stands in rows_of_stands(length, 4):
                for answers in itertools.product(WORDS, repeat=max(0, len(stands) - 1)):
                    wanted = [at for at in range(1, length + 1) if told_row(at, stands) == list(answers)]
                    self.assertEqual(can_lie(length, stands, list(answers)), tuple(wanted))

    def test_the_thing_is_among_the_places_of_its_answers(self):
        for length in range(1, 7):
            for stands in rows_of_stands(length, 3):
                for thing in range(1, length + 1):
                    self.assertIn(thing, can_lie(length, stands, answers_to(length, thing, stands)))

    def test_a_tuple_of_whole_numbers(self):
        for places in (can_lie(3, [], []), can_lie(3, [1, 1], ["warm"]), can_lie(1, [1], [])):
            self.assertIs(type(places), tuple)
            self.assertTrue(all(type(place) is int for place in places))

    def test_the_same_asked_again(self):
        stands, answers = [1, 10, 6], ["warm", "warm"]
        self.assertEqual(can_lie(10, stands, answers), can_lie(10, stands, answers))
        self.assertEqual((stands, answers), ([1, 10, 6], ["warm", "warm"]))


if __name__ == "__main__":
    unittest.main()
