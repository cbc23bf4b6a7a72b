"""Point 3, as far as it speaks of answers, of places and of stands told ahead; the rest stands with points 8 to 12."""

import itertools
import unittest

from tests.helper import drawn_paths, mirrored
from warmcold.ahead import alike, how_many
from warmcold.paths import answers_to, can_lie


def short_drawn_paths():
    return [(length, stands[:many]) for length, stands in drawn_paths() if length <= 20 for many in (2, 4, 40)]


class WholeTest(unittest.TestCase):
    def test_the_told_places_have_no_gap(self):
        for length, stands in drawn_paths():
            for cut in (2, 3, 5, 40):
                for thing in (1, (length + 1) // 2, length):
                    answers = answers_to(length, thing, stands[:cut])
                    places = can_lie(length, stands[:cut], answers)
                    self.assertEqual(places, tuple(range(places[0], places[-1] + 1)))

    def test_told_just_where_the_answers_are_these(self):
        for length, stands in short_drawn_paths():
            for thing in range(1, length + 1):
                answers = answers_to(length, thing, stands)
                places = can_lie(length, stands, answers)
                for place in range(1, length + 1):
                    self.assertEqual(place in places, answers_to(length, place, stands) == answers)

    def test_places_between_two_told_apart(self):
        for length, stands in short_drawn_paths():
            rows = {place: answers_to(length, place, stands) for place in range(1, length + 1)}
            for one, between, other in itertools.combinations(range(1, length + 1), 3):
                if rows[one] != rows[other]:
                    self.assertTrue(rows[between] != rows[one] or rows[between] != rows[other])
                else:
                    self.assertEqual(rows[between], rows[one])

    def test_alike_are_answered_alike(self):
        for length, stands in drawn_paths():
            pair = alike(length, stands)
            self.assertEqual(pair is None, how_many(length, stands) == length)
            if pair is not None:
                self.assertLess(pair[0], pair[1])
                self.assertEqual(answers_to(length, pair[0], stands), answers_to(length, pair[1], stands))

    def test_seen_in_a_mirror(self):
        for length, stands in drawn_paths():
            turned = mirrored(length, stands)
            self.assertEqual(how_many(length, turned), how_many(length, stands))
            self.assertEqual(alike(length, turned) is None, alike(length, stands) is None)
            for thing in (1, (length + 1) // 2, length):
                answers = answers_to(length, thing, stands)
                self.assertEqual(answers_to(length, length + 1 - thing, turned), answers)
                places = can_lie(length, stands, answers)
                self.assertEqual(can_lie(length, turned, answers), tuple(sorted(mirrored(length, places))))


if __name__ == "__main__":
    unittest.main()
