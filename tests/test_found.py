import unittest

from lines import FREE, HOW_MANY, IDLE, LOG, TOP, WORLDS, ask, both, chance, found, guess, range_of, told


class Founding(unittest.TestCase):
    def test_counts_all_worlds(self):
        for h in range(1, 6):
            for size in range(1, 6):
                with self.subTest(h=h, size=size):
                    self.assertEqual(told(found(h, 1, [0] * size)), [[(h + 1) ** size]])

    def test_there_are_as_many_people_as_numbers(self):
        self.assertEqual(
            told(found(2, 1, [0, 1, 2]), range_of(3), range_of(4)),
            [[27], [3, 0, 1, 2], [-1]],
        )

    def test_people_have_their_numbers(self):
        # With h 5 and p 2, whether somebody has 3 at least leaves three numbers each way.
        calls = [found(5, 2, [2, 3, 5])]
        calls += [ask(HOW_MANY, 3, [i]) for i in (1, 2, 3)]
        self.assertEqual(told(*calls), [[216], [0, 108], [1, 54], [1, 27]])

    def test_how_many_numbers(self):
        self.assertEqual(told(found(1, 1, [])), [[-1]])
        self.assertEqual(told(found(1, 1, [0] * 5)), [[32]])
        for size in (6, 7, 8):
            self.assertEqual(told(found(1, 1, [0] * size)), [[-1]])

    def test_h_is_1_to_5(self):
        self.assertEqual(told(found(0, 1, [0])), [[-1]])
        self.assertEqual(told(found(0, 0, [0])), [[-1]])
        self.assertEqual(told(found(1, 1, [0])), [[2]])
        self.assertEqual(told(found(5, 1, [0])), [[6]])
        self.assertEqual(told(found(6, 1, [0])), [[-1]])
        self.assertEqual(told(found(TOP, 1, [0] * 5)), [[-1]])

    def test_p_is_1_to_h(self):
        for h in range(1, 6):
            with self.subTest(h=h):
                self.assertEqual(told(found(h, 0, [0])), [[-1]])
                self.assertEqual(told(found(h, 1, [0])), [[h + 1]])
                self.assertEqual(told(found(h, h, [0])), [[h + 1]])
                self.assertEqual(told(found(h, h + 1, [0])), [[-1]])
                self.assertEqual(told(found(h, TOP, [0])), [[-1]])

    def test_no_number_is_above_h(self):
        self.assertEqual(told(found(3, 1, [3, 0])), [[16]])
        self.assertEqual(told(found(3, 1, [4, 0])), [[-1]])
        self.assertEqual(told(found(3, 1, [0, 0, 4])), [[-1]])
        self.assertEqual(told(found(5, 1, [0, TOP])), [[-1]])

    def test_a_second_found_begins_anew(self):
        self.assertEqual(
            told(found(5, 2, [1, 4]), ask(HOW_MANY, 3, [1]), found(2, 1, [2, 0, 1]), WORLDS, range_of(1)),
            [[36], [0, 18], [27], [27], [3, 0, 1, 2]],
        )

    def test_a_second_found_may_have_fewer_people(self):
        self.assertEqual(
            told(found(2, 1, [0, 0, 0]), found(2, 1, [0]), range_of(2), ask(HOW_MANY, 0, [1, 2])),
            [[27], [3], [-1], [-1]],
        )

    def test_a_second_found_forgets_how_many_were_told(self):
        calls = [IDLE] * 20 + [IDLE, found(1, 1, [0]), IDLE]
        self.assertEqual(told(*calls)[20:], [[-5], [2], [1, 2]])

    def test_a_second_found_sets_p(self):
        question = ask(HOW_MANY, 3, [1])
        self.assertEqual(
            told(found(5, 3, [0]), question, found(5, 2, [0]), question),
            [[6], [-6], [6], [0, 3]],
        )


class AfterARefusal(unittest.TestCase):
    def test_all_is_as_it_was(self):
        wrong = [
            found(1, 1, []), found(1, 1, [0] * 6), found(0, 0, [0]), found(6, 1, [0]),
            found(2, 0, [0]), found(2, 3, [0]), found(2, 1, [0, 3]),
        ]
        before = [found(5, 2, [1, 4]), ask(HOW_MANY, 3, [1, 2])]
        after = [
            WORLDS, range_of(1), range_of(2), range_of(3), guess(1), both(1, 2), both(1, 3), chance(0, 0, 5, [1, 2]),
            LOG, FREE, ask(0, 0, [1, 2]), ask(1, 0, [1, 2]),
        ]
        undisturbed = told(*before, *after)
        for call in wrong:
            with self.subTest(call=call):
                self.assertEqual(told(*before, call, *after), undisturbed[:2] + [[-1]] + undisturbed[2:])

    def test_what_was_told_still_counts(self):
        calls = [IDLE] * 20 + [found(1, 2, [0]), IDLE]
        self.assertEqual(told(*calls)[20:], [[-1], [-5]])

    def test_the_office_of_the_beginning_stays(self):
        self.assertEqual(
            told(found(5, 6, [0, 0]), WORLDS, range_of(1), range_of(2)),
            [[-1], [2], [2, 0, 1], [-1]],
        )
