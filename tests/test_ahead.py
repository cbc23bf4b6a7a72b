"""Points 6 and 7: which places stands tell apart, and the fewest that tell all apart."""

import itertools
import unittest

from tests.helper import all_apart, drawn_paths, rows_of_stands, told_rows
from warmcold.ahead import alike, fewest_ahead, how_many, stands_ahead


def counted(length, stands):
    unlike = []
    for row in told_rows(length, stands):
        if row not in unlike:
            unlike.append(row)
    return len(unlike)


def first_alike(length, stands):
    rows = told_rows(length, stands)
    for one, other in itertools.combinations(range(1, length + 1), 2):
        if rows[one - 1] == rows[other - 1]:
            return (one, other)
    return None


class ToldApartTest(unittest.TestCase):
    def test_how_many_by_hand(self):
        cases = (
            (1, [], 1), (1, [1], 1), (1, [1, 1], 1), (2, [1, 2], 2), (5, [], 1), (5, [4], 1), (5, [2, 2], 1),
            (5, [1, 5], 3), (5, [1, 4], 2), (5, [1, 3, 5], 5), (5, [1, 5, 1], 3), (60, [1, 60], 2), (60, [1, 59], 3),
            (60, [30] * 40, 1), (60, list(range(1, 41)), 40),
        )
        for length, stands, many in cases:
            with self.subTest(length=length, stands=stands):
                self.assertEqual(how_many(length, stands), many)

    def test_alike_by_hand(self):
        cases = (
            (1, [], None), (1, [1], None), (2, [], (1, 2)), (2, [1], (1, 2)), (2, [1, 2], None), (2, [2, 2], (1, 2)),
            (5, [1, 3, 5], None), (5, [1, 3], (3, 4)), (5, [1, 5], (1, 2)), (5, [1, 2, 3], (3, 4)),
            (60, list(range(1, 41)), (40, 41)), (60, list(range(60, 20, -1)), (1, 2)),
        )
        for length, stands, pair in cases:
            with self.subTest(length=length, stands=stands):
                self.assertEqual(alike(length, stands), pair)

    def test_against_all_places_of_short_paths(self):
        for length in range(1, 6):
            for stands in rows_of_stands(length, 4):
                self.assertEqual(how_many(length, stands), counted(length, stands))
                self.assertEqual(alike(length, stands), first_alike(length, stands))

    def test_against_all_places_of_drawn_paths(self):
        for length, stands in drawn_paths():
            self.assertEqual(how_many(length, stands), counted(length, stands))
            self.assertEqual(alike(length, stands), first_alike(length, stands))

    def test_kinds_of_values(self):
        self.assertIs(type(how_many(4, [])), int)
        self.assertIs(type(alike(4, [])), tuple)

    def test_the_stands_stay_as_they_were(self):
        stands = [1, 5, 5, 2]
        self.assertEqual(how_many(5, stands), how_many(5, stands))
        self.assertEqual(alike(5, stands), alike(5, stands))
        self.assertEqual(stands, [1, 5, 5, 2])


class FewestTest(unittest.TestCase):
    def test_by_hand(self):
        fewest = {1: 0, 2: 2, 3: 2, 4: 3, 5: 3, 6: 4, 7: 4, 8: 5, 59: 30, 60: 31}
        for length, many in fewest.items():
            with self.subTest(length):
                self.assertEqual(fewest_ahead(length), many)

    def test_none_of_a_path_of_one_place(self):
        self.assertEqual(fewest_ahead(1), 0)
        self.assertEqual(stands_ahead(1), [])

    def test_the_told_stands_tell_all_apart(self):
        for length in range(1, 61):
            with self.subTest(length):
                stands = stands_ahead(length)
                self.assertIs(type(stands), list)
                self.assertTrue(all(type(stand) is int and 1 <= stand <= length for stand in stands))
                self.assertEqual(len(stands), fewest_ahead(length))
                self.assertTrue(all_apart(length, stands))
                self.assertIsNone(alike(length, stands))
                self.assertEqual(how_many(length, stands), length)

    def test_no_fewer_tell_all_apart(self):
        for length in range(2, 10):
            with self.subTest(length):
                for stands in rows_of_stands(length, fewest_ahead(length) - 1):
                    self.assertFalse(all_apart(length, stands), stands)

    def test_no_fewer_than_the_moves_can_part(self):
        # One move parts at most two pairs of neighbours, and every pair has to be parted.
        for length in range(2, 61):
            self.assertEqual(2 * (fewest_ahead(length) - 1), length - 1 + (length - 1) % 2)

    def test_each_list_is_new(self):
        for length in (1, 2, 5, 60):
            one = stands_ahead(length)
            other = stands_ahead(length)
            self.assertIsNot(one, other)
            one.append(1)
            self.assertEqual(stands_ahead(length), other)

    def test_kinds_of_values(self):
        for length in (1, 2, 60):
            self.assertIs(type(fewest_ahead(length)), int)


if __name__ == "__main__":
    unittest.main()
