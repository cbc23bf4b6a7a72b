"""Point 12: a search kept, stand by stand."""

import copy
import unittest

from tests.helper import DEEP, NO_NUMBERS, NO_WORDS, WORDS, drawn_paths, mirrored, refused, told_by_middle, told_row
from warmcold.errors import Never, NoAnswer, NoLength, NoPlace, NothingLeft, NotNow
from warmcold.paths import can_lie
from warmcold.searches import Search


def told(search):
    """All that a search tells of itself."""
    return (search.stands(), search.answers(), search.can_lie(), search.waits(), len(search))


def searched(length, stands, answers):
    """A search of these stands, answered by turns as far as there are answers."""
    search = Search(length)
    for at, place in enumerate(stands):
        search.stand(place)
        if 0 < at <= len(answers):
            search.answer(answers[at - 1])
    return search


def all_states():
    """Searches at every kind of moment: new, at the first stand, waiting, answered."""
    return (
        Search(5), searched(5, [2], []), searched(5, [2, 4], []), searched(5, [2, 4], ["warm"]),
        searched(5, [2, 4, 5], ["warm"]), searched(5, [2, 4, 5], ["warm", "cold"]),
    )


class SearchCase(unittest.TestCase):
    def check_refused(self, search, wanted, method, *arguments):
        before = told(search)
        refused(self, wanted, method, *arguments)
        self.assertEqual(told(search), before)


class SearchTest(SearchCase):
    def test_a_new_one(self):
        for length in (1, 2, 60):
            self.assertEqual(told(Search(length)), ([], [], tuple(range(1, length + 1)), False, 0))

    def test_stands_and_answers_by_turns(self):
        search = Search(10)
        self.assertIsNone(search.stand(1))
        self.assertEqual(told(search), ([1], [], tuple(range(1, 11)), False, 1))
        self.assertIsNone(search.stand(10))
        self.assertEqual(told(search), ([1, 10], [], tuple(range(1, 11)), True, 2))
        self.assertIsNone(search.answer("warm"))
        self.assertEqual(told(search), ([1, 10], ["warm"], (6, 7, 8, 9, 10), False, 2))
        search.stand(6)
        self.assertEqual(told(search), ([1, 10, 6], ["warm"], (6, 7, 8, 9, 10), True, 3))
        search.answer("warm")
        self.assertEqual(told(search), ([1, 10, 6], ["warm", "warm"], (6, 7), False, 3))
        search.stand(6)
        search.answer("same")
        self.assertEqual(told(search), ([1, 10, 6, 6], ["warm", "warm", "same"], (6, 7), False, 4))
        search.stand(8)
        search.answer("same")
        self.assertEqual(told(search), ([1, 10, 6, 6, 8], ["warm", "warm", "same", "same"], (7,), False, 5))

    def test_going_on_where_one_place_is_left(self):
        search = searched(3, [1, 3], ["same"])
        self.assertEqual(search.can_lie(), (2,))
        search.stand(2)
        search.answer("warm")
        self.assertEqual(told(search), ([1, 3, 2], ["same", "warm"], (2,), False, 3))

    def test_a_path_of_one_place(self):
        search = searched(1, [1, 1], [])
        self.check_refused(search, Never, search.answer, "warm")
        self.check_refused(search, Never, search.answer, "cold")
        search.answer("same")
        self.assertEqual(told(search), ([1, 1], ["same"], (1,), False, 2))

    def test_kinds_of_values(self):
        for search in all_states():
            self.assertEqual([type(part) for part in told(search)], [list, list, tuple, bool, int])

    def test_beside_the_function_of_the_same_name(self):
        for length, stands in drawn_paths():
            search, answers = Search(length), []
            thing = sum(stands) % length + 1
            for at, place in enumerate(stands):
                search.stand(place)
                self.assertEqual(search.can_lie(), can_lie(length, stands[:max(1, at)], answers))
                if at:
                    self.assertTrue(search.waits())
                    answers.append(told_by_middle(thing, stands[at - 1], place))
                    search.answer(answers[-1])
                self.assertFalse(search.waits())
                self.assertEqual(search.can_lie(), can_lie(length, stands[:at + 1], answers))

    def test_more_than_forty_stands(self):
        length, thing = 60, 37
        stands = [at * 17 % 60 + 1 for at in range(300)]
        search = searched(length, stands, told_row(thing, stands))
        self.assertEqual(told(search), (stands, told_row(thing, stands), (37,), False, 300))
        search = searched(60, [30] * 1000, ["same"] * 999)
        self.assertEqual(told(search), ([30] * 1000, ["same"] * 999, tuple(range(1, 61)), False, 1000))

    def test_seen_in_a_mirror(self):
        for length, stands in drawn_paths():
            answers = told_row((length + 1) // 2, stands)
            here = searched(length, stands, answers).can_lie()
            there = searched(length, mirrored(length, stands), answers).can_lie()
            self.assertEqual(there, tuple(sorted(mirrored(length, here))))


class RefusalsTest(SearchCase):
    def test_no_length(self):
        for length in NO_NUMBERS + (DEEP,):
            refused(self, NoLength, Search, length)

    def test_no_place_at_any_time(self):
        # Where an answer waits NotNow is due, too, and NoPlace goes first.
        for search in all_states():
            for place in NO_NUMBERS + (DEEP, 6, 60):
                self.check_refused(search, NoPlace, search.stand, place)

    def test_no_stand_while_an_answer_waits(self):
        for search in all_states():
            if search.waits():
                for place in range(1, 6):
                    self.check_refused(search, NotNow, search.stand, place)

    def test_no_answer_at_any_time(self):
        # Where none is to be given NotNow is due, too, and NoAnswer goes first.
        for search in all_states():
            for word in NO_WORDS:
                self.check_refused(search, NoAnswer, search.answer, word)

    def test_no_answer_where_none_waits(self):
        # Some of these words could never be answered either: NotNow goes first.
        for search in all_states() + (searched(1, [1], []), searched(2, [1, 2], ["warm"])):
            if not search.waits():
                for word in WORDS:
                    self.check_refused(search, NotNow, search.answer, word)

    def test_never(self):
        cases = (
            (5, [3, 3], [], "warm"), (5, [3, 3], [], "cold"), (5, [1, 4], [], "same"), (5, [1, 2], [], "same"),
            (5, [1, 5, 1], ["warm"], "warm"), (5, [1, 5, 1], ["warm"], "same"), (5, [1, 5, 1], ["same"], "cold"),
            (60, [1, 59, 30, 60], ["same", "warm"], "warm"),
        )
        for length, stands, answers, word in cases:
            search = searched(length, stands, answers)
            self.check_refused(search, Never, search.answer, word)
            self.assertTrue(search.waits())

    def test_each_answer_is_never_or_taken(self):
        for length, stands in drawn_paths():
            if length <= 12 and len(stands) > 4:
                search = searched(length, stands[:4], told_row(length, stands[:4]))
                search.stand(stands[4])
                for word in WORDS:
                    left = can_lie(length, stands[:5], told_row(length, stands[:4]) + [word])
                    if left:
                        search.answer(word)
                        self.assertEqual(search.can_lie(), left)
                        search.back()
                    else:
                        self.check_refused(search, Never, search.answer, word)

    def test_going_on_behind_refusals(self):
        search = searched(5, [1, 5], [])
        self.check_refused(search, NotNow, search.stand, 3)
        self.check_refused(search, NoAnswer, search.answer, "hot")
        search.answer("warm")
        self.check_refused(search, NotNow, search.answer, "warm")
        search.stand(1)
        self.check_refused(search, Never, search.answer, "warm")
        search.answer("cold")
        self.assertEqual(told(search), ([1, 5, 1], ["warm", "cold"], (4, 5), False, 3))


class BackTest(SearchCase):
    def test_nothing_left(self):
        search = Search(3)
        self.check_refused(search, NothingLeft, search.back)
        search.stand(2)
        search.back()
        self.check_refused(search, NothingLeft, search.back)
        search.stand(1)
        self.assertEqual(search.stands(), [1])

    def test_each_deed_to_the_very_first(self):
        for length, stands in drawn_paths():
            search, before = Search(length), []
            answers = told_row(length, stands)
            for at, place in enumerate(stands):
                before.append(told(search))
                search.stand(place)
                if at:
                    before.append(told(search))
                    search.answer(answers[at - 1])
            while before:
                self.assertIsNone(search.back())
                self.assertEqual(told(search), before.pop())
            self.check_refused(search, NothingLeft, search.back)
            self.assertEqual(search, Search(length))

    def test_another_answer_behind(self):
        search = searched(5, [1, 5], ["warm"])
        search.back()
        self.assertEqual(told(search), ([1, 5], [], (1, 2, 3, 4, 5), True, 2))
        search.answer("cold")
        self.assertEqual(search.can_lie(), (1, 2))
        search.back()
        search.back()
        self.assertEqual(told(search), ([1], [], (1, 2, 3, 4, 5), False, 1))
        search.stand(3)
        search.answer("same")
        self.assertEqual(told(search), ([1, 3], ["same"], (2,), False, 2))

    def test_a_refused_deed_is_not_taken_back(self):
        search = searched(5, [1, 5], ["warm"])
        self.check_refused(search, NotNow, search.answer, "warm")
        self.check_refused(search, NoPlace, search.stand, 6)
        search.back()
        self.assertEqual(told(search), ([1, 5], [], (1, 2, 3, 4, 5), True, 2))


class EqualTest(SearchCase):
    def test_equal_where_all_three_are(self):
        for one, other in zip(all_states(), all_states()):
            self.assertIs(one == other, True)
            self.assertIs(one != other, False)
            self.assertIs(one == one, True)

    def test_unlike(self):
        states = all_states() + (
            Search(4), searched(4, [2], []), searched(5, [3], []), searched(5, [2, 5], []), searched(6, [2, 4], ["warm"]),
            searched(5, [2, 4], ["cold"]), searched(5, [2, 4], ["same"]), searched(5, [4, 2], ["cold"]),
            searched(5, [2, 2], ["same"]), searched(5, [2, 2, 2], ["same", "same"]),
        )
        for at, one in enumerate(states):
            for place, other in enumerate(states):
                self.assertIs(one == other, at == place)
                self.assertIs(one != other, at != place)

    def test_alike_in_where_the_thing_can_lie_is_not_equal(self):
        one, other = searched(3, [1, 3], ["warm"]), searched(3, [3, 1], ["cold"])
        self.assertEqual(one.can_lie(), other.can_lie())
        self.assertFalse(one == other)

    def test_nothing_else_equals_one(self):
        for search in all_states():
            others = NO_NUMBERS + NO_WORDS + (DEEP, 5, search.stands(), search.answers(), search.can_lie(), told(search))
            for other in others:
                self.assertIs(search == other, False)
                self.assertIs(other == search, False)
                self.assertIs(search != other, True)

    def test_equal_again_when_taken_back(self):
        one, other = searched(5, [1, 5], ["warm"]), searched(5, [1, 5], [])
        self.assertNotEqual(one, other)
        one.back()
        self.assertEqual(one, other)
        other.answer("cold")
        other.back()
        self.assertEqual(one, other)

    def test_asking_changes_nothing(self):
        for search in all_states():
            before = copy.deepcopy(told(search))
            self.assertEqual(told(search), before)
            self.assertTrue(search == search)
            self.assertEqual(told(search), before)


class OwnListsTest(SearchCase):
    def test_lists_told_are_the_askers_own(self):
        search = searched(5, [1, 5], ["warm"])
        before = copy.deepcopy(told(search))
        stands, answers = search.stands(), search.answers()
        self.assertIsNot(search.stands(), stands)
        self.assertIsNot(search.answers(), answers)
        stands.append(3)
        stands[0] = 9
        answers.clear()
        self.assertEqual(told(search), before)

    def test_a_list_told_stays_when_the_search_goes_on(self):
        search = searched(5, [1, 5], ["warm"])
        stands, answers, places = search.stands(), search.answers(), search.can_lie()
        search.stand(1)
        search.answer("cold")
        search.back()
        search.back()
        search.back()
        self.assertEqual((stands, answers, places), ([1, 5], ["warm"], (4, 5)))

    def test_two_searches_share_nothing(self):
        one, other = Search(5), Search(5)
        one.stand(1)
        one.stand(5)
        one.answer("same")
        self.assertEqual(told(other), ([], [], (1, 2, 3, 4, 5), False, 0))


if __name__ == "__main__":
    unittest.main()
