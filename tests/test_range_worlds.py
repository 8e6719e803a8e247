import unittest

from lines import HOW_MANY, LEAST, TOGETHER, TOP, WORLDS, ask, found, range_of, told, would


class Range(unittest.TestCase):
    def test_all_numbers_before_anything_is_told(self):
        for h in range(1, 6):
            self.assertEqual(told(found(h, 1, [0, h]), range_of(2))[1], [h + 1] + list(range(h + 1)))

    def test_after_something_is_told(self):
        self.assertEqual(
            told(found(5, 1, [0, 5]), ask(HOW_MANY, 2, [1]), ask(HOW_MANY, 4, [2]), range_of(1), range_of(2))[3:],
            [[2, 0, 1], [2, 4, 5]],
        )

    def test_numbers_between_may_be_missing(self):
        self.assertEqual(
            told(found(5, 2, [5, 2]), ask(HOW_MANY, 3, [1, 2]), ask(LEAST, 0, [1, 2]), range_of(1))[3],
            [4, 2, 3, 4, 5],
        )

    def test_who_there_is(self):
        for size in range(1, 6):
            with self.subTest(size=size):
                office = found(2, 1, [0] * size)
                self.assertEqual(
                    told(office, range_of(0), range_of(1), range_of(size), range_of(size + 1), range_of(TOP))[1:],
                    [[-1], [3, 0, 1, 2], [3, 0, 1, 2], [-1], [-1]],
                )

    def test_at_the_beginning(self):
        self.assertEqual(told(range_of(1), range_of(0), range_of(2)), [[2, 0, 1], [-1], [-1]])

    def test_a_refusal_leaves_all_as_it_was(self):
        self.assertEqual(told(found(2, 1, [1]), range_of(2), range_of(1), WORLDS)[1:], [[-1], [3, 0, 1, 2], [3]])


class Worlds(unittest.TestCase):
    def test_at_the_beginning(self):
        self.assertEqual(told(WORLDS), [[2]])

    def test_all_before_anything_is_told(self):
        self.assertEqual(told(found(5, 1, [0] * 5), WORLDS), [[7776], [7776]])

    def test_fewer_after_something_is_told(self):
        self.assertEqual(
            told(found(5, 2, [1, 4]), ask(HOW_MANY, 3, [1, 2]), WORLDS, ask(TOGETHER, 0, [1, 2]), WORLDS)[1:],
            [[1, 18], [18], [5, 6], [6]],
        )

    def test_as_many_after_a_would_or_a_refusal(self):
        self.assertEqual(
            told(found(5, 2, [1, 4]), would(HOW_MANY, 3, [1]), ask(TOGETHER, 0, [1]), WORLDS)[1:],
            [[1, 2, 0, 1], [-6], [36]],
        )
