"""Log and free: what was told, and what people next to one another have together that would be told."""

import unittest

from lines import (
    FREE, GREATEST, HOW_MANY, IDLE, LEAST, LOG, PAIR, TOGETHER, WORLDS,
    ask, chance, found, range_of, told, would,
)


class Log(unittest.TestCase):
    def test_nothing_told(self):
        self.assertEqual(told(LOG, found(5, 1, [1, 4]), LOG), [[0], [36], [0]])

    def test_one_told(self):
        self.assertEqual(told(*PAIR, LOG)[2], [1, 3, 3, 2, 1, 2, 1])

    def test_several_in_the_order_they_were_told(self):
        calls = [found(5, 1, [1, 4, 5]), ask(HOW_MANY, 3, [1, 2, 3]), ask(HOW_MANY, 0, [2]), ask(GREATEST, 0, [2, 3])]
        self.assertEqual(told(*calls, LOG), [
            [216], [2, 81], [1, 81], [5, 33],
            [3, 3, 3, 3, 1, 2, 3, 2, 3, 0, 1, 2, 1, 1, 0, 2, 2, 3, 5],
        ])
        calls = [PAIR[0], IDLE, PAIR[1], ask(LEAST, 0, [1, 2]), IDLE, LOG]
        self.assertEqual(told(*calls)[5], [
            4, 3, 0, 1, 1, 1, 3, 3, 2, 1, 2, 1, 2, 0, 2, 1, 2, 1, 3, 0, 1, 1, 1,
        ])

    def test_t_as_it_was_told(self):
        for what, answer in ((TOGETHER, 5), (GREATEST, 4), (LEAST, 1)):
            for t in (0, 7, 20):
                with self.subTest(what=what, t=t):
                    self.assertEqual(
                        told(*PAIR, ask(what, t, [1, 2]), LOG)[3],
                        [2, 3, 3, 2, 1, 2, 1, what, t, 2, 1, 2, answer],
                    )

    def test_it_grows_call_by_call(self):
        one = [3, 0, 1, 1, 1]
        self.assertEqual(told(LOG, IDLE, LOG, IDLE, LOG)[::2], [[0], [1] + one, [2] + one * 2])

    def test_twenty(self):
        self.assertEqual(told(*[IDLE] * 20, LOG)[20], [20] + [3, 0, 1, 1, 1] * 20)

    def test_what_was_refused_is_not_in_it(self):
        refused = [
            (ask(TOGETHER, 0, [1]), -6), (ask(4, 0, [1]), -1), (ask(HOW_MANY, 21, [1]), -1),
            (ask(HOW_MANY, 0, []), -1), (ask(HOW_MANY, 0, [2, 1]), -1), (ask(HOW_MANY, 0, [3]), -1),
        ]
        for call, answer in refused:
            with self.subTest(call=call):
                self.assertEqual(told(*PAIR, call, LOG)[2:], [[answer], [1, 3, 3, 2, 1, 2, 1]])
        self.assertEqual(told(*[IDLE] * 20, ask(HOW_MANY, 2, [1]), LOG)[20:], [[-5], [20] + [3, 0, 1, 1, 1] * 20])

    def test_what_was_only_looked_at_is_not_in_it(self):
        looks = [would(TOGETHER, 0, [1, 2]), chance(TOGETHER, 0, 5, [1, 2]), range_of(1), WORLDS, FREE]
        self.assertEqual(told(*PAIR, *looks, LOG)[7], [1, 3, 3, 2, 1, 2, 1])

    def test_a_second_found_empties_it(self):
        self.assertEqual(told(*PAIR, LOG, found(1, 1, [0]), LOG, IDLE, LOG)[2:], [
            [1, 3, 3, 2, 1, 2, 1], [2], [0], [1, 2], [1, 3, 0, 1, 1, 1],
        ])

    def test_a_found_that_is_refused_does_not(self):
        self.assertEqual(told(*PAIR, found(1, 2, [0]), LOG)[2:], [[-1], [1, 3, 3, 2, 1, 2, 1]])


class Free(unittest.TestCase):
    def test_at_the_beginning(self):
        self.assertEqual(told(FREE), [[0]])

    def test_one_person(self):
        # What one person has would leave nothing open, whatever was told.
        for h in range(1, 6):
            self.assertEqual(told(found(h, 1, [0]), FREE, IDLE, FREE), [[h + 1], [0], [1, h + 1], [0]])
        self.assertEqual(told(found(5, 1, [4]), ask(HOW_MANY, 3, [1]), FREE)[2], [0])

    def test_several_people_before_anything_is_told(self):
        for size in range(2, 6):
            self.assertEqual(told(found(2, 1, [1] * size), FREE)[1], [0])

    def test_two_people(self):
        self.assertEqual(told(*PAIR, FREE)[2], [1, 1, 2])

    def test_all_stretches_of_three_in_order(self):
        # One has 0 or 1, one 2 or 3, one 4 or 5.
        calls = [found(5, 1, [2, 5, 0]), ask(HOW_MANY, 4, [1, 2, 3]), ask(HOW_MANY, 2, [1, 2, 3]), FREE]
        self.assertEqual(told(*calls)[2:], [[2, 48], [3, 1, 2, 1, 3, 2, 3]])

    def test_the_lower_i_first_then_the_lower_j(self):
        calls = [found(3, 1, [2, 2, 1, 0]), ask(HOW_MANY, 2, [1, 2, 3, 4]), FREE]
        self.assertEqual(told(*calls)[1:], [[2, 96], [3, 1, 3, 1, 4, 2, 4]])

    def test_not_from_the_first(self):
        self.assertEqual(told(found(4, 1, [1, 3, 2]), ask(HOW_MANY, 3, [2, 3]), FREE)[1:], [[1, 60], [1, 2, 3]])
        self.assertEqual(told(found(4, 1, [0, 0, 4, 0]), ask(HOW_MANY, 3, [3, 4]), FREE)[1:], [[1, 300], [1, 3, 4]])

    def test_none_left(self):
        # Who of the two has 3 at least is told as well: then 3 together are 0 and 3.
        self.assertEqual(told(*PAIR, FREE, ask(HOW_MANY, 3, [1]), FREE)[2:], [[1, 1, 2], [0, 9], [0]])

    def test_what_was_told_may_be_told_again(self):
        self.assertEqual(told(*PAIR, ask(TOGETHER, 0, [1, 2]), FREE)[2:], [[5, 6], [1, 1, 2]])

    def test_p_counts(self):
        # One has 2, the other 3 to 5: 5 together leave 2 or 3 for each.
        sets = [ask(HOW_MANY, 3, [1, 2]), ask(HOW_MANY, 2, [1, 2])]
        self.assertEqual(told(found(5, 1, [3, 2]), *sets, FREE)[1:], [[1, 18], [2, 6], [1, 1, 2]])
        self.assertEqual(told(found(5, 2, [3, 2]), *sets, FREE)[1:], [[1, 18], [2, 6], [0]])

    def test_people_outside_the_stretch_count_too(self):
        # All three have 7 together: what two have would leave these two open, but not the third.
        calls = [found(5, 1, [2, 5, 0]), ask(HOW_MANY, 4, [1, 2, 3]), ask(HOW_MANY, 2, [1, 2, 3])]
        self.assertEqual(told(*calls, ask(TOGETHER, 0, [1, 2, 3]), FREE)[3:], [[7, 18], [1, 1, 3]])

    def test_it_is_what_would_says(self):
        sets = [found(3, 1, [2, 2, 1, 0]), ask(HOW_MANY, 2, [1, 2, 3, 4])]
        stretches = [(i, j) for i in range(1, 5) for j in range(i, 5)]
        said = told(*sets, *[would(TOGETHER, 0, list(range(i, j + 1))) for i, j in stretches])[2:]
        free = [stretch for stretch, answer in zip(stretches, said) if answer[0] == 1]
        self.assertEqual(told(*sets, FREE)[2], [len(free)] + [i for stretch in free for i in stretch])

    def test_after_twenty_it_goes_by_the_ranges_alone(self):
        self.assertEqual(told(*PAIR, *[IDLE] * 19, IDLE, FREE)[21:], [[-5], [1, 1, 2]])

    def test_nothing_is_told_by_it(self):
        after = [WORLDS, LOG, range_of(1), ask(TOGETHER, 0, [1, 2])]
        undisturbed = told(*PAIR, *after)
        self.assertEqual(told(*PAIR, FREE, *after), undisturbed[:2] + [[1, 1, 2]] + undisturbed[2:])
