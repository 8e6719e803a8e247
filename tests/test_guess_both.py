"""Guess and both: what people have in the worlds that might be, one by one and two by two."""

import unittest

from leftopen.office import lowest_terms
from lines import (
    FREE, GREATEST, HOW_MANY, LEAST, LOG, PAIR, PAIR_TOLD, TOGETHER, TOP, WORLDS,
    ask, both, found, guess, range_of, told,
)


class Guess(unittest.TestCase):
    def test_the_lowest_of_those_had_equally_often(self):
        for h in range(1, 6):
            for i in (1, 2, 3):
                with self.subTest(h=h, i=i):
                    self.assertEqual(told(found(h, 1, [h, h, h]), guess(i))[1], [0, 1, h + 1])

    def test_the_lowest_need_not_be_0(self):
        self.assertEqual(told(found(5, 1, [4]), ask(HOW_MANY, 2, [1]), guess(1))[2], [2, 1, 4])

    def test_the_lowest_whoever_is_asked_about(self):
        # 5 together: the less the first has, the more the second.
        calls = [ask(TOGETHER, 0, [1, 2]), guess(1), guess(2)]
        self.assertEqual(told(*PAIR, *calls)[2:], [[5, 6], [0, 1, 6], [0, 1, 6]])

    def test_a_higher_number_that_is_had_more_often(self):
        # The greatest is 4: either has it in three worlds of six, and 0, 1 and 2 in one each.
        calls = [ask(GREATEST, 0, [1, 2]), guess(1), guess(2)]
        self.assertEqual(told(*PAIR, *calls), PAIR_TOLD + [[4, 6], [4, 1, 2], [4, 1, 2]])

    def test_a_number_in_the_middle_that_is_had_more_often(self):
        # Behind the least, 2, stand 3, 4 and 5, and nobody has 0 or 1.
        calls = [found(5, 2, [5, 2]), ask(HOW_MANY, 3, [1, 2]), ask(LEAST, 0, [1, 2]), guess(2), range_of(2)]
        self.assertEqual(told(*calls)[2:], [[2, 6], [2, 1, 2], [4, 2, 3, 4, 5]])

    def test_most_worlds_not_the_true_number(self):
        calls = [found(5, 1, [5, 1, 0]), ask(HOW_MANY, 3, [1, 2, 3]), guess(1), guess(2)]
        self.assertEqual(told(*calls)[2:], [[0, 2, 9], [0, 2, 9]])

    def test_lowest_terms(self):
        # One of three has 3 at least: 81 worlds, and 0 stands in 18 of them.
        calls = [found(5, 1, [0, 0, 5]), ask(HOW_MANY, 3, [1, 2, 3]), WORLDS, guess(3)]
        self.assertEqual(told(*calls)[1:], [[1, 81], [81], [0, 2, 9]])

    def test_people_by_their_numbers(self):
        calls = [found(5, 1, [0, 5]), ask(HOW_MANY, 2, [1]), ask(HOW_MANY, 3, [2]), guess(1), guess(2)]
        self.assertEqual(told(*calls)[3:], [[0, 1, 2], [3, 1, 3]])

    def test_at_the_beginning(self):
        self.assertEqual(told(guess(0), guess(1), guess(2)), [[-1], [0, 1, 2], [-1]])

    def test_who_there_is(self):
        for size in range(1, 6):
            with self.subTest(size=size):
                calls = [guess(0), guess(1), guess(size), guess(size + 1), guess(TOP)]
                self.assertEqual(
                    told(found(2, 1, [1] * size), *calls)[1:],
                    [[-1], [0, 1, 3], [0, 1, 3], [-1], [-1]],
                )


class LowestTerms(unittest.TestCase):
    """No guess is ever sure, as p is 1 at least: so a whole part is looked at by itself."""

    def test_a_whole_part(self):
        for number in (1, 2, 81, 7776):
            self.assertEqual(lowest_terms(number, number), [1, 1])

    def test_nothing(self):
        for number in (1, 2, 81, 7776):
            self.assertEqual(lowest_terms(0, number), [0, 1])

    def test_shortened(self):
        self.assertEqual(lowest_terms(18, 81), [2, 9])
        self.assertEqual(lowest_terms(6, 4), [3, 2])
        self.assertEqual(lowest_terms(1296, 7776), [1, 6])

    def test_nothing_to_shorten(self):
        self.assertEqual(lowest_terms(1, 7776), [1, 7776])
        self.assertEqual(lowest_terms(8, 9), [8, 9])


class Both(unittest.TestCase):
    def test_order_of_the_pairs(self):
        self.assertEqual(
            told(found(2, 1, [0, 0]), both(1, 2))[1],
            [9, 0, 0, 0, 1, 0, 2, 1, 0, 1, 1, 1, 2, 2, 0, 2, 1, 2, 2],
        )

    def test_i_below_j_and_i_above_j(self):
        calls = [found(3, 1, [1, 3]), ask(HOW_MANY, 2, [1]), both(1, 2), both(2, 1)]
        self.assertEqual(told(*calls)[2:], [
            [8, 0, 0, 0, 1, 0, 2, 0, 3, 1, 0, 1, 1, 1, 2, 1, 3],
            [8, 0, 0, 0, 1, 1, 0, 1, 1, 2, 0, 2, 1, 3, 0, 3, 1],
        ])

    def test_i_and_j_the_same(self):
        calls = [found(5, 1, [4, 0]), ask(HOW_MANY, 3, [1]), both(1, 1), both(2, 2)]
        self.assertEqual(told(*calls)[2:], [
            [3, 3, 3, 4, 4, 5, 5],
            [6, 0, 0, 1, 1, 2, 2, 3, 3, 4, 4, 5, 5],
        ])

    def test_only_pairs_that_might_be(self):
        calls = [ask(TOGETHER, 0, [1, 2]), both(1, 2)]
        self.assertEqual(told(*PAIR, *calls)[2:], [[5, 6], [6, 0, 5, 1, 4, 2, 3, 3, 2, 4, 1, 5, 0]])

    def test_each_pair_once(self):
        # What the third has makes several worlds of each pair.
        calls = [found(1, 1, [0, 1, 1]), both(1, 2), both(1, 3), both(3, 2)]
        self.assertEqual(told(*calls)[1:], [[4, 0, 0, 0, 1, 1, 0, 1, 1]] * 3)

    def test_people_by_their_numbers(self):
        calls = [found(3, 1, [0, 3, 0]), ask(HOW_MANY, 2, [1]), ask(HOW_MANY, 2, [2]), ask(HOW_MANY, 2, [3])]
        self.assertEqual(told(*calls, both(1, 2), both(2, 3), both(1, 3))[4:], [
            [4, 0, 2, 0, 3, 1, 2, 1, 3],
            [4, 2, 0, 2, 1, 3, 0, 3, 1],
            [4, 0, 0, 0, 1, 1, 0, 1, 1],
        ])

    def test_at_the_beginning(self):
        self.assertEqual(told(both(1, 1), both(1, 2), both(0, 1)), [[2, 0, 0, 1, 1], [-1], [-1]])

    def test_who_there_is(self):
        for size in range(1, 6):
            office = found(1, 1, [0] * size)
            for i in (0, 1, size, size + 1, TOP):
                for j in (0, 1, size, size + 1, TOP):
                    with self.subTest(size=size, i=i, j=j):
                        answer = told(office, both(i, j))[1]
                        if i not in range(1, size + 1) or j not in range(1, size + 1):
                            self.assertEqual(answer, [-1])
                        elif i == j:
                            self.assertEqual(answer, [2, 0, 0, 1, 1])
                        else:
                            self.assertEqual(answer, [4, 0, 0, 0, 1, 1, 0, 1, 1])


class AllIsAsItWas(unittest.TestCase):
    def test_whether_answered_or_refused(self):
        after = [WORLDS, range_of(1), range_of(2), LOG, FREE, ask(TOGETHER, 0, [1, 2])]
        undisturbed = told(*PAIR, *after)
        for call in (guess(1), guess(0), guess(3), both(1, 2), both(2, 2), both(0, 1), both(1, 3)):
            with self.subTest(call=call):
                answer = told(*PAIR, call)[2]
                self.assertEqual(told(*PAIR, call, *after), undisturbed[:2] + [answer] + undisturbed[2:])
