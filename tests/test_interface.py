"""The one list that is handed in, and the one that is given back."""

import unittest

from leftopen.office import answers
from lines import (
    FREE, GREATEST, HOW_MANY, IDLE, LOG, TOGETHER, WORLDS,
    ask, both, chance, found, guess, line, range_of, told, would,
)

MIXED = line([
    WORLDS, range_of(1), IDLE, found(5, 2, [1, 4]), ask(HOW_MANY, 3, [1, 2]), would(TOGETHER, 0, [1, 2]),
    ask(TOGETHER, 0, [1, 2]), range_of(2), ask(1, 0, [2, 1]), found(1, 2, [0]), found(1, 1, []),
    found(2, 1, [2]), ask(TOGETHER, 0, [1]), WORLDS,
])

# All ten calls ahead of any found, behind one, behind one that is refused and behind a second.
ALL_TEN = line([
    WORLDS, range_of(1), guess(1), both(1, 1), chance(HOW_MANY, 1, 1, [1]), LOG, FREE, would(HOW_MANY, 2, [1]), IDLE,
    LOG, guess(2),
    found(5, 2, [1, 4]), ask(HOW_MANY, 3, [1, 2]), chance(TOGETHER, 0, 4, [1, 2]), FREE,
    found(5, 6, [0]),
    ask(GREATEST, 9, [1, 2]), guess(2), both(2, 1), LOG,
    found(1, 1, [0, 1]),
    LOG, FREE, both(1, 2), both(1, 3), chance(TOGETHER, 0, 1, [2, 1]), range_of(2), WORLDS,
])
ALL_TEN_ANSWERS = line([
    [1, 2], [3, 2, 0, 1], [3, 0, 1, 2], [5, 2, 0, 0, 1, 1], [2, 1, 2], [1, 0], [1, 0], [3, 1, 1, 0], [2, 1, 2],
    [6, 1, 3, 0, 1, 1, 1], [1, -1],
    [1, 36], [2, 1, 18], [2, 2, 9], [3, 1, 1, 2],
    [1, -1],
    [2, 4, 6], [3, 4, 1, 2], [13, 6, 0, 4, 1, 4, 2, 4, 4, 0, 4, 1, 4, 2],
    [13, 2, 3, 3, 2, 1, 2, 1, 1, 9, 2, 1, 2, 4],
    [1, 4],
    [1, 0], [1, 0], [9, 4, 0, 0, 0, 1, 1, 0, 1, 1], [1, -1], [1, -1], [3, 2, 0, 1], [1, 4],
])


class Interface(unittest.TestCase):
    def test_number_by_number(self):
        self.assertEqual(
            answers([0, 5, 2, 2, 1, 4, 1, 3, 3, 2, 1, 2, 2, 1, 0, 2, 1, 2, 3, 1, 4, 1, 0, 0, 2, 1, 2]),
            [1, 36, 2, 1, 18, 5, 1, 3, 3, 4, 5, 7, 6, 0, 1, 2, 3, 4, 5, 1, 18, 2, 5, 6],
        )

    def test_a_refusal_stands_alone(self):
        self.assertEqual(answers([3, 2]), [1, -1])
        self.assertEqual(answers([1, 0, 0, 1, 1]), [1, -6])
        self.assertEqual(answers([0, 1, 1, 0]), [1, -1])

    def test_calls_behind_a_refused_row_are_still_found(self):
        self.assertEqual(
            told(found(1, 1, [0] * 8), WORLDS, ask(HOW_MANY, 0, []), WORLDS, would(9, 9, [9] * 8), WORLDS),
            [[-1], [2], [-1], [2], [-1], [2]],
        )

    def test_several_calls_with_two_founds_and_calls_ahead_of_them(self):
        self.assertEqual(answers(MIXED), line([
            [1, 2], [3, 2, 0, 1], [2, 1, 2], [1, 36], [2, 1, 18], [7, 1, 5, 3, 4, 5, 6, 7],
            [2, 5, 6], [7, 6, 0, 1, 2, 3, 4, 5], [1, -1], [1, -1], [1, -1],
            [1, 3], [1, -6], [1, 3],
        ]))

    def test_all_ten_calls(self):
        self.assertEqual(answers(ALL_TEN), ALL_TEN_ANSWERS)

    def test_the_five_later_calls_number_by_number(self):
        self.assertEqual(answers([5, 1]), [3, 0, 1, 2])
        self.assertEqual(answers([6, 1, 1]), [5, 2, 0, 0, 1, 1])
        self.assertEqual(answers([7, 3, 1, 0, 1, 1]), [2, 1, 2])
        self.assertEqual(answers([1, 3, 0, 1, 1, 8]), [2, 1, 2, 6, 1, 3, 0, 1, 1, 1])
        self.assertEqual(answers([9]), [1, 0])

    def test_calls_behind_a_refused_chance_or_both_are_still_found(self):
        self.assertEqual(
            told(chance(9, 99, 9, []), WORLDS, chance(0, 0, 0, [8] * 8), WORLDS, both(9, 9), WORLDS, guess(9), WORLDS),
            [[-1], [2]] * 4,
        )

    def test_forty_frees_on_the_most_worlds(self):
        self.assertEqual(told(found(5, 1, [0, 1, 2, 3, 5]), *[FREE] * 39), [[7776]] + [[0]] * 39)

    def test_forty_calls_on_the_most_worlds(self):
        calls = [found(5, 1, [0, 1, 2, 3, 5])] + [would(TOGETHER, 0, [1, 2, 3, 4, 5])] * 39
        self.assertEqual(told(*calls), [[7776]] + [[0, 26] + list(range(26))] * 39)

    def test_what_is_handed_in_is_as_it_was(self):
        for handed in (MIXED, ALL_TEN):
            calls = list(handed)
            answers(calls)
            self.assertEqual(calls, handed)

    def test_what_is_handed_in_is_not_changed_for_a_while_either(self):
        class Watched(list):
            def changed(self, *given):
                raise AssertionError("the list that was handed in was changed")

            append = clear = extend = insert = pop = remove = reverse = sort = changed
            __setitem__ = __delitem__ = __iadd__ = __imul__ = changed

        for handed in (MIXED, ALL_TEN):
            self.assertEqual(answers(Watched(handed)), answers(handed))

    def test_nothing_is_kept_from_one_time_to_the_next(self):
        for handed in (MIXED, ALL_TEN):
            first = answers(handed)
            self.assertEqual(answers(handed), first)
        self.assertEqual(answers(WORLDS), [1, 2])
        self.assertEqual(answers(LOG), [1, 0])
        self.assertEqual(told(*[IDLE] * 20, IDLE)[20], [-5])
        self.assertEqual(told(IDLE), [[1, 2]])

    def test_what_is_given_back_is_the_callers(self):
        for handed in (MIXED, ALL_TEN):
            first = answers(handed)
            kept = list(first)
            first.clear()
            self.assertEqual(answers(handed), kept)

    def test_whole_numbers_in_a_list(self):
        for handed in (MIXED, ALL_TEN):
            given = answers(handed)
            self.assertIs(type(given), list)
            self.assertEqual({type(number) for number in given}, {int})
