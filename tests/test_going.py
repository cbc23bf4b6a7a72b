"""Points 8 and 9: by how few stands, and by how few steps, one surely finds the thing."""

import functools
import itertools
import unittest

from tests.helper import all_stretches, mirrored, told_by_middle
from warmcold.going import stands_at_all, stands_from, steps_from


def one_stand(earlier, later):
    return 1


def places_gone_over(earlier, later):
    return abs(later - earlier)


COSTS = ((stands_from, one_stand), (steps_from, places_gone_over))


@functools.lru_cache(maxsize=None)
def by_answer(places, earlier, later):
    """The places, put together where the same is answered of them."""
    together = {}
    for place in places:
        together.setdefault(told_by_middle(place, earlier, later), []).append(place)
    return [tuple(group) for group in together.values()]


@functools.lru_cache(maxsize=None)
def enough(length, places, stand, budget, cost):
    """Whether some way to go on surely finds the thing at no more than this cost."""
    if len(places) == 1:
        return True
    others = [place for place in range(1, length + 1) if place != stand]
    return any(enough_by(length, places, stand, onward, budget, cost) for onward in others)


def enough_by(length, places, stand, onward, budget, cost):
    rest = budget - cost(stand, onward)
    return rest >= 0 and all(
        enough(length, group, onward, rest, cost) for group in by_answer(places, stand, onward)
    )


def searched(length, stretch, stand, cost):
    """The least cost and the first other place, by a search through all ways to go on."""
    places = tuple(range(stretch[0], stretch[1] + 1))
    if len(places) == 1:
        return (0, None)
    least = next(budget for budget in itertools.count() if enough(length, places, stand, budget, cost))
    others = [place for place in range(1, length + 1) if place != stand]
    return (least, next(place for place in others if enough_by(length, places, stand, place, least, cost)))


def followed(function, cost, length, stretch, stand, thing):
    """What it costs to find this thing if one goes on to the told place each time."""
    spent, left = 0, list(range(stretch[0], stretch[1] + 1))
    while len(left) > 1:
        onward = function(length, (left[0], left[-1]), stand)[1]
        spent += cost(stand, onward)
        word = told_by_middle(thing, stand, onward)
        left = [place for place in left if told_by_middle(place, stand, onward) == word]
        stand = onward
    return spent, left


class StandsFromTest(unittest.TestCase):
    def test_by_hand(self):
        cases = (
            (2, (1, 2), 1, (1, 2)), (2, (1, 2), 2, (1, 1)), (3, (1, 3), 1, (1, 3)), (3, (1, 3), 3, (1, 1)),
            # From the middle of three places no single move tells all three apart.
            (3, (1, 3), 2, (2, 1)),
            # The middle of places 3 and 1 is 2, so that place 1 is told apart from 2.
            (3, (1, 2), 3, (1, 1)),
            # From afar no move tells the two apart: one goes near first.
            (16, (1, 2), 16, (2, 1)), (16, (15, 16), 1, (2, 14)),
            # Three places are told apart by one stand if it can stand across from where one is.
            (16, (4, 6), 1, (1, 9)), (16, (7, 9), 16, (2, 1)), (16, (7, 9), 15, (1, 1)),
        )
        for length, stretch, place, wanted in cases:
            with self.subTest(length=length, stretch=stretch, place=place):
                self.assertEqual(stands_from(length, stretch, place), wanted)

    def test_no_more_places_are_told_apart_than_can_be(self):
        for stretch in all_stretches(16):
            for place in range(1, 17):
                many = stands_from(16, stretch, place)[0]
                self.assertLess(stretch[1] - stretch[0] + 1, 2 ** (many + 1))


class StepsFromTest(unittest.TestCase):
    def test_by_hand(self):
        cases = (
            (2, (1, 2), 1, (1, 2)), (2, (1, 2), 2, (1, 1)), (3, (1, 3), 1, (2, 2)), (3, (1, 3), 3, (2, 1)),
            (16, (1, 16), 1, (15, 2)), (16, (1, 2), 16, (15, 2)), (16, (15, 16), 1, (15, 2)),
            # From inside one step tells the side, and a wrong one is gone back again.
            (3, (1, 3), 2, (3, 1)), (16, (1, 16), 8, (9, 9)), (16, (1, 16), 9, (9, 8)),
        )
        for length, stretch, place, wanted in cases:
            with self.subTest(length=length, stretch=stretch, place=place):
                self.assertEqual(steps_from(length, stretch, place), wanted)

    def test_from_outside_to_the_far_end(self):
        for low, high in all_stretches(16):
            if low < high:
                for place in range(1, low + 1):
                    self.assertEqual(steps_from(16, (low, high), place)[0], high - place)
                for place in range(high, 17):
                    self.assertEqual(steps_from(16, (low, high), place)[0], place - low)


class BothTest(unittest.TestCase):
    def test_against_all_ways_to_go_on(self):
        for function, cost in COSTS:
            for length in range(1, 17):
                for stretch in all_stretches(length):
                    for place in range(1, length + 1):
                        wanted = searched(length, stretch, place, cost)
                        self.assertEqual(function(length, stretch, place), wanted, (function, length, stretch, place))

    def test_the_told_place_followed_for_each_thing(self):
        for function, cost in COSTS:
            for length in (1, 2, 3, 4, 5, 6, 7, 8, 11, 16):
                for stretch in all_stretches(length):
                    if length > 8 and (stretch[1] - stretch[0]) % 5:
                        continue
                    for place in range(1, length + 1):
                        self.check_followed(function, cost, length, stretch, place)

    def check_followed(self, function, cost, length, stretch, place):
        least = function(length, stretch, place)[0]
        costs = []
        for thing in range(stretch[0], stretch[1] + 1):
            spent, left = followed(function, cost, length, stretch, place, thing)
            self.assertEqual(left, [thing])
            costs.append(spent)
        self.assertEqual(max(costs), least, (function, length, stretch, place))

    def test_nothing_need_be_done(self):
        for function, _ in COSTS:
            for length in (1, 2, 9, 16):
                for thing in range(1, length + 1):
                    for place in range(1, length + 1):
                        self.assertEqual(function(length, (thing, thing), place), (0, None))

    def test_something_is_to_be_done_else(self):
        for function, _ in COSTS:
            for stretch in all_stretches(16):
                for place in range(1, 17):
                    many, onward = function(16, stretch, place)
                    self.assertEqual(many == 0, stretch[0] == stretch[1])
                    self.assertEqual(onward is None, many == 0)
                    self.assertNotEqual(onward, place)

    def test_kinds_of_values(self):
        for function, _ in COSTS:
            for arguments in ((1, (1, 1), 1), (5, (2, 4), 5), (16, (1, 16), 8)):
                told = function(*arguments)
                self.assertIs(type(told), tuple)
                self.assertEqual(len(told), 2)
                self.assertIs(type(told[0]), int)
                self.assertIn(type(told[1]), (int, type(None)))

    def test_seen_in_a_mirror(self):
        for function, _ in COSTS:
            for length in (2, 3, 8, 15, 16):
                for stretch in all_stretches(length):
                    for place in range(1, length + 1):
                        turned = tuple(sorted(mirrored(length, stretch)))
                        there = function(length, turned, length + 1 - place)
                        self.assertEqual(there[0], function(length, stretch, place)[0])

    def test_less_open_wants_no_more(self):
        for function, _ in COSTS:
            for length in (2, 3, 7, 16):
                for place in range(1, length + 1):
                    told = {stretch: function(length, stretch, place)[0] for stretch in all_stretches(length)}
                    for low, high in told:
                        if low < high:
                            self.assertLessEqual(told[low + 1, high], told[low, high])
                            self.assertLessEqual(told[low, high - 1], told[low, high])

    def test_a_step_is_no_less_than_a_stand(self):
        for stretch in all_stretches(16):
            for place in range(1, 17):
                self.assertLessEqual(stands_from(16, stretch, place)[0], steps_from(16, stretch, place)[0])

    def test_the_same_asked_again(self):
        for function, _ in COSTS:
            stretch = (3, 14)
            self.assertEqual(function(16, stretch, 5), function(16, stretch, 5))
            self.assertEqual(stretch, (3, 14))


class StandsAtAllTest(unittest.TestCase):
    def test_by_hand(self):
        wanted = {
            1: (0, None), 2: (2, 1), 3: (2, 1), 4: (3, 1), 5: (3, 1), 6: (4, 1), 11: (4, 1), 12: (4, 4), 13: (4, 5),
            14: (5, 1), 16: (5, 1),
        }
        for length, pair in wanted.items():
            with self.subTest(length):
                self.assertEqual(stands_at_all(length), pair)

    def test_against_all_ways_to_begin(self):
        for length in range(2, 17):
            further = [searched(length, (1, length), place, one_stand)[0] for place in range(1, length + 1)]
            wanted = (min(further) + 1, further.index(min(further)) + 1)
            self.assertEqual(stands_at_all(length), wanted)

    def test_beside_the_further_stands(self):
        for length in range(2, 17):
            many, place = stands_at_all(length)
            self.assertEqual(stands_from(length, (1, length), place)[0], many - 1)
            for earlier in range(1, place):
                self.assertGreater(stands_from(length, (1, length), earlier)[0], many - 1)

    def test_kinds_of_values(self):
        for length in (1, 2, 16):
            told = stands_at_all(length)
            self.assertIs(type(told), tuple)
            self.assertEqual(len(told), 2)
            self.assertIs(type(told[0]), int)


if __name__ == "__main__":
    unittest.main()
