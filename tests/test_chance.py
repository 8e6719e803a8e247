"""Chance: in what part of the worlds that might be a question has an answer. What is wrong: test_questions."""

import unittest

from lines import (
    FREE, GREATEST, HOW_MANY, IDLE, LEAST, LOG, PAIR, TOGETHER, TOP, WORLDS,
    ask, chance, found, told,
)


class Chance(unittest.TestCase):
    def test_together(self):
        # Sums 3 to 7 of one of 0 to 2 and one of 3 to 5, in 2, 4, 6, 4 and 2 worlds of 18.
        calls = [chance(TOGETHER, 0, v, [1, 2]) for v in range(2, 9)]
        self.assertEqual(told(*PAIR, *calls)[2:], [[0, 1], [1, 9], [2, 9], [1, 3], [2, 9], [1, 9], [0, 1]])

    def test_greatest(self):
        calls = [chance(GREATEST, 0, v, [1, 2]) for v in range(4)]
        self.assertEqual(told(found(2, 1, [0, 0]), *calls)[1:], [[1, 9], [1, 3], [5, 9], [0, 1]])

    def test_least(self):
        calls = [chance(LEAST, 0, v, [1, 2]) for v in range(4)]
        self.assertEqual(told(found(2, 1, [0, 0]), *calls)[1:], [[5, 9], [1, 3], [1, 9], [0, 1]])

    def test_how_many(self):
        calls = [chance(HOW_MANY, 2, v, [1, 2]) for v in range(4)]
        self.assertEqual(told(found(2, 1, [0, 0]), *calls)[1:], [[4, 9], [4, 9], [1, 9], [0, 1]])

    def test_how_many_by_t(self):
        calls = [chance(HOW_MANY, t, 1, [1]) for t in range(8)]
        self.assertEqual(
            told(found(5, 1, [0]), *calls)[1:],
            [[1, 1], [5, 6], [2, 3], [1, 2], [1, 3], [1, 6], [0, 1], [0, 1]],
        )

    def test_an_answer_that_no_world_has(self):
        for what in range(4):
            for v in (11, 20, 21, TOP):
                with self.subTest(what=what, v=v):
                    self.assertEqual(told(found(5, 1, [5, 5]), chance(what, 1, v, [1, 2]))[1], [0, 1])

    def test_an_answer_that_no_world_has_any_more(self):
        self.assertEqual(told(PAIR[0], chance(HOW_MANY, 3, 2, [1, 2]))[1], [1, 4])
        self.assertEqual(told(*PAIR, chance(HOW_MANY, 3, 2, [1, 2]))[2], [0, 1])

    def test_an_answer_that_every_world_has(self):
        self.assertEqual(told(*PAIR, chance(HOW_MANY, 3, 1, [1, 2]))[2], [1, 1])
        self.assertEqual(told(chance(HOW_MANY, 0, 1, [1]), chance(HOW_MANY, 2, 0, [1])), [[1, 1], [1, 1]])
        self.assertEqual(told(*PAIR, ask(TOGETHER, 0, [1, 2]), chance(TOGETHER, 0, 5, [1, 2]))[3], [1, 1])

    def test_t_says_nothing_but_with_how_many(self):
        for what, part in ((TOGETHER, [1, 3]), (GREATEST, [1, 3]), (LEAST, [0, 1])):
            v = 5
            for t in (0, 1, 3, 20):
                with self.subTest(what=what, t=t):
                    self.assertEqual(told(*PAIR, chance(what, t, v, [1, 2]))[2], part)

    def test_t_of_20_and_21(self):
        for what in range(4):
            self.assertEqual(told(chance(what, 20, 5, [1]), chance(what, 21, 5, [1])), [[0, 1], [-1]])

    def test_what_of_3_and_4(self):
        self.assertEqual(told(chance(3, 1, 1, [1]), chance(4, 1, 1, [1])), [[1, 2], [-1]])

    def test_only_the_named_people_count(self):
        calls = [chance(TOGETHER, 0, 0, people) for people in ([1], [3], [1, 3], [1, 2, 3])]
        self.assertEqual(told(found(2, 1, [2, 1, 0]), *calls)[1:], [[1, 3], [1, 3], [1, 9], [1, 27]])

    def test_it_is_the_same_whatever_people_have(self):
        for number in range(4):
            self.assertEqual(told(found(3, 1, [number]), chance(TOGETHER, 0, 2, [1]))[1], [1, 4])

    def test_of_questions_that_would_be_refused_too(self):
        self.assertEqual(told(ask(TOGETHER, 0, [1]), chance(TOGETHER, 0, 1, [1])), [[-6], [1, 2]])

    def test_after_twenty_were_told_too(self):
        self.assertEqual(told(*[IDLE] * 20, IDLE, chance(TOGETHER, 0, 1, [1]))[20:], [[-5], [1, 2]])

    def test_all_worlds(self):
        calls = [chance(TOGETHER, 0, v, [1, 2, 3, 4, 5]) for v in (0, 1)]
        self.assertEqual(told(found(5, 1, [0] * 5), *calls), [[7776], [1, 7776], [5, 7776]])

    def test_all_is_as_it_was(self):
        after = [WORLDS, LOG, FREE, ask(TOGETHER, 0, [1, 2])]
        undisturbed = told(*PAIR, *after)
        for call in (chance(TOGETHER, 0, 5, [1, 2]), chance(4, 0, 5, [1, 2]), chance(TOGETHER, 0, 5, [3])):
            with self.subTest(call=call):
                answer = told(*PAIR, call)[2]
                self.assertEqual(told(*PAIR, call, *after), undisturbed[:2] + [answer] + undisturbed[2:])
