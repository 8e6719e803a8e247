"""Ask and would: what is told, what is refused, and what is wrong."""

import unittest

from lines import (
    GREATEST, HOW_MANY, IDLE, LEAST, PAIR, PAIR_TOLD, TOGETHER, TOP, WORLDS,
    ask, chance, found, range_of, told, would,
)


class FourKinds(unittest.TestCase):
    def test_together(self):
        self.assertEqual(told(found(2, 1, [0, 1]), would(TOGETHER, 0, [1, 2]))[1], [0, 5, 0, 1, 2, 3, 4])

    def test_greatest(self):
        self.assertEqual(told(*PAIR, would(GREATEST, 0, [1, 2]))[2], [1, 3, 3, 4, 5])

    def test_least(self):
        self.assertEqual(told(*PAIR, would(LEAST, 0, [1, 2]))[2], [1, 3, 0, 1, 2])

    def test_how_many_have_t_at_least(self):
        office = found(5, 1, [0, 0, 0])
        self.assertEqual(told(office, would(HOW_MANY, 0, [1, 2, 3]))[1], [1, 1, 3])
        self.assertEqual(told(office, would(HOW_MANY, 1, [1, 2, 3]))[1], [0, 4, 0, 1, 2, 3])
        self.assertEqual(told(office, would(HOW_MANY, 2, [1, 2, 3]))[1], [1, 4, 0, 1, 2, 3])
        self.assertEqual(told(office, would(HOW_MANY, 4, [1, 2, 3]))[1], [1, 4, 0, 1, 2, 3])
        self.assertEqual(told(office, would(HOW_MANY, 5, [1, 2, 3]))[1], [0, 4, 0, 1, 2, 3])
        self.assertEqual(told(office, would(HOW_MANY, 6, [1, 2, 3]))[1], [1, 1, 0])

    def test_true_answers(self):
        self.assertEqual(told(*PAIR, ask(TOGETHER, 0, [1, 2]))[2], [5, 6])
        self.assertEqual(told(*PAIR, ask(GREATEST, 0, [1, 2]))[2], [4, 6])
        self.assertEqual(told(*PAIR, ask(LEAST, 0, [1, 2]))[2], [1, 6])

    def test_t_says_nothing_but_with_how_many(self):
        for what in (TOGETHER, GREATEST, LEAST):
            for t in (1, 3, 6, 20):
                with self.subTest(what=what, t=t):
                    self.assertEqual(
                        told(*PAIR, would(what, t, [1, 2]), ask(what, t, [1, 2])),
                        told(*PAIR, would(what, 0, [1, 2]), ask(what, 0, [1, 2])),
                    )

    def test_only_the_named_people_count(self):
        self.assertEqual(
            told(found(5, 2, [5, 0, 4]), ask(HOW_MANY, 3, [1, 3]), ask(HOW_MANY, 3, [2])),
            [[216], [2, 54], [0, 27]],
        )


class Told(unittest.TestCase):
    def test_what_is_told_narrows_the_worlds(self):
        self.assertEqual(
            told(*PAIR, WORLDS, ask(TOGETHER, 0, [1, 2]), WORLDS, range_of(1)),
            PAIR_TOLD + [[18], [5, 6], [6], [6, 0, 1, 2, 3, 4, 5]],
        )

    def test_what_was_told_before_counts(self):
        # What they have together is 5, so the greatest being 3 would leave 2 or 3 for each.
        self.assertEqual(told(*PAIR, would(GREATEST, 0, [1, 2]))[2][0], 1)
        self.assertEqual(
            told(*PAIR, ask(TOGETHER, 0, [1, 2]), would(GREATEST, 0, [1, 2]), ask(GREATEST, 0, [1, 2]))[3:],
            [[0, 3, 3, 4, 5], [-6]],
        )

    def test_what_was_told_before_may_make_it_told(self):
        self.assertEqual(told(PAIR[0], ask(TOGETHER, 0, [1, 2])), [[36], [-6]])
        self.assertEqual(told(*PAIR, ask(TOGETHER, 0, [1, 2])), PAIR_TOLD + [[5, 6]])

    def test_ranges_need_be_p_wide_and_no_wider(self):
        for p, answer in ((1, [0, 3]), (2, [0, 3]), (3, [-6])):
            with self.subTest(p=p):
                self.assertEqual(told(found(5, p, [1]), ask(HOW_MANY, 3, [1]))[1], answer)

    def test_where_p_is_h_only_what_is_known_is_told(self):
        office = found(5, 5, [3, 3])
        self.assertEqual(told(office, ask(HOW_MANY, 0, [1, 2]))[1], [2, 36])
        self.assertEqual(told(office, ask(HOW_MANY, 6, [1, 2]))[1], [0, 36])
        for t in range(1, 6):
            self.assertEqual(told(office, ask(HOW_MANY, t, [1, 2]))[1], [-6])

    def test_the_same_may_be_asked_again(self):
        self.assertEqual(told(*PAIR, PAIR[1], PAIR[1]), PAIR_TOLD + [[1, 18], [1, 18]])

    def test_a_range_may_have_gaps(self):
        # A range goes from the least to the greatest: 0 and 3 alone are 3 wide.
        sets = [found(5, 2, [0, 3]), ask(HOW_MANY, 3, [1, 2]), ask(TOGETHER, 0, [1, 2])]
        self.assertEqual(told(*sets, range_of(1), range_of(2))[2:], [[3, 2], [2, 0, 3], [2, 0, 3]])

    def test_people_outside_the_question_count_too(self):
        # One of the two has 0, the other 2 to 5. If the first has 3 at least, three numbers
        # are left for him, but the second surely has 0.
        sets = [found(5, 1, [0, 4]), ask(HOW_MANY, 2, [1, 2]), ask(LEAST, 0, [1, 2])]
        self.assertEqual(
            told(*sets, would(HOW_MANY, 3, [1]), ask(HOW_MANY, 3, [1]), WORLDS)[1:],
            [[1, 16], [0, 8], [0, 2, 0, 1], [-6], [8]],
        )


class Refused(unittest.TestCase):
    def test_an_ask_that_gives_somebody_away(self):
        self.assertEqual(told(found(5, 1, [0, 0]), ask(TOGETHER, 0, [1, 2])), [[36], [-6]])
        self.assertEqual(told(found(5, 1, [0, 0]), ask(GREATEST, 0, [1, 2])), [[36], [-6]])
        self.assertEqual(told(found(5, 1, [5, 5]), ask(LEAST, 0, [1, 2])), [[36], [-6]])

    def test_whatever_the_true_answer_is(self):
        # 5 of 10 together would leave everybody open; 0 or 10 would not, and that is enough.
        for first in range(6):
            for second in range(6):
                for what in (TOGETHER, GREATEST, LEAST):
                    with self.subTest(first=first, second=second, what=what):
                        self.assertEqual(told(found(5, 1, [first, second]), ask(what, 0, [1, 2])), [[36], [-6]])

    def test_answers_that_cannot_be_any_more_do_not_count(self):
        # The first has 3 to 5: that he has 1 at least or not can't give him away now.
        self.assertEqual(
            told(found(5, 2, [4]), ask(HOW_MANY, 1, [1]), ask(HOW_MANY, 3, [1]), ask(HOW_MANY, 1, [1])),
            [[6], [-6], [1, 3], [1, 3]],
        )

    def test_a_refusal_leaves_all_as_it_was(self):
        after = [WORLDS, range_of(1), range_of(2), would(TOGETHER, 0, [1, 2]), ask(TOGETHER, 0, [1, 2])]
        refused = [
            (ask(HOW_MANY, 4, [1]), -6), (ask(4, 0, [1]), -1), (ask(TOGETHER, 0, [3]), -1),
            (would(4, 0, [1]), -1), (would(TOGETHER, 0, []), -1), (range_of(3), -1),
        ]
        undisturbed = told(*PAIR, *after)
        for call, answer in refused:
            with self.subTest(call=call):
                self.assertEqual(told(*PAIR, call, *after), undisturbed[:2] + [[answer]] + undisturbed[2:])

    def test_what_is_refused_does_not_count_as_told(self):
        refused = [ask(TOGETHER, 0, [1])] * 5 + [ask(TOGETHER, 0, [])] * 5
        self.assertEqual(told(*refused, *[IDLE] * 21)[10:], [[1, 2]] * 20 + [[-5]])


class Would(unittest.TestCase):
    def test_nothing_is_told_by_it(self):
        self.assertEqual(
            told(*PAIR, would(TOGETHER, 0, [1, 2]), would(GREATEST, 0, [1, 2]), WORLDS, range_of(1)),
            PAIR_TOLD + [[1, 5, 3, 4, 5, 6, 7], [1, 3, 3, 4, 5], [18], [6, 0, 1, 2, 3, 4, 5]],
        )

    def test_it_does_not_count_as_told(self):
        calls = [would(HOW_MANY, 0, [1])] * 15 + [IDLE] * 21
        self.assertEqual(told(*calls)[15:], [[1, 2]] * 20 + [[-5]])

    def test_a_refused_question_has_answers_too(self):
        self.assertEqual(told(found(3, 3, [1]), would(TOGETHER, 0, [1])), [[4], [0, 4, 0, 1, 2, 3]])

    def test_it_is_the_same_whatever_people_have(self):
        for number in range(4):
            self.assertEqual(told(found(3, 1, [number]), would(HOW_MANY, 2, [1]))[1], [1, 2, 0, 1])

    def test_after_twenty_it_goes_by_the_ranges_alone(self):
        calls = [IDLE] * 20 + [would(HOW_MANY, 0, [1]), would(TOGETHER, 0, [1]), would(4, 0, [1])]
        self.assertEqual(told(*calls)[20:], [[1, 1, 1], [0, 2, 0, 1], [-1]])


class Twenty(unittest.TestCase):
    def test_the_twentieth_and_the_one_after_it(self):
        self.assertEqual(told(*[IDLE] * 22), [[1, 2]] * 20 + [[-5]] * 2)

    def test_questions_that_narrow_count_as_well(self):
        calls = PAIR + [IDLE] * 18 + [ask(TOGETHER, 0, [1, 2]), ask(TOGETHER, 0, [1, 2]), WORLDS]
        self.assertEqual(told(*calls)[20:], [[5, 6], [-5], [6]])

    def test_after_minus_five_all_is_as_it_was(self):
        calls = PAIR + [IDLE] * 19 + [ask(TOGETHER, 0, [1, 2]), WORLDS, range_of(2)]
        self.assertEqual(told(*calls)[21:], [[-5], [18], [6, 0, 1, 2, 3, 4, 5]])


class WhichRefusal(unittest.TestCase):
    def test_minus_one_before_minus_five(self):
        for call in (ask(4, 0, [1]), ask(HOW_MANY, 21, [1]), ask(HOW_MANY, 0, []), ask(HOW_MANY, 0, [2])):
            self.assertEqual(told(*[IDLE] * 20, call)[20], [-1])

    def test_minus_one_before_minus_six(self):
        self.assertEqual(told(ask(TOGETHER, 21, [1])), [[-1]])
        self.assertEqual(told(ask(TOGETHER, 0, [1])), [[-6]])

    def test_minus_six_before_minus_five(self):
        self.assertEqual(told(*[IDLE] * 20, ask(TOGETHER, 0, [1]), IDLE)[20:], [[-6], [-5]])

    def test_minus_one_before_both(self):
        self.assertEqual(told(*[IDLE] * 20, ask(TOGETHER, 21, [1]))[20], [-1])


class Wrong(unittest.TestCase):
    """What ask, would and chance answer with -1."""

    def check(self, what, t, people, wrong, office=found(1, 1, [0] * 5)):
        calls = [ask(what, t, people), would(what, t, people)]
        calls += [chance(what, t, v, people) for v in (0, 1, TOP)]
        for call in calls:
            with self.subTest(call=call):
                answer = told(office, call)[1]
                if wrong:
                    self.assertEqual(answer, [-1])
                else:
                    self.assertNotEqual(answer, [-1])

    def test_what_is_0_to_3(self):
        for what in range(4):
            self.check(what, 0, [1], False)
        for what in (4, 5, TOP):
            self.check(what, 0, [1], True)

    def test_t_is_0_to_20(self):
        for what in range(4):
            self.check(what, 0, [1], False)
            self.check(what, 20, [1], False)
            self.check(what, 21, [1], True)
            self.check(what, TOP, [1], True)

    def test_there_is_somebody(self):
        for what in range(4):
            self.check(what, 0, [], True)

    def test_people_rise(self):
        for people in ([1, 2], [1, 5], [2, 4, 5], [1, 2, 3, 4, 5]):
            self.check(HOW_MANY, 0, people, False)
        for people in ([2, 1], [1, 3, 2], [1, 1], [1, 2, 2], [5, 5], [1, 2, 3, 4, 5, 5], [3, 4, 1]):
            self.check(HOW_MANY, 0, people, True)

    def test_there_is_such_a_person(self):
        for size in range(1, 6):
            office = found(1, 1, [0] * size)
            self.check(HOW_MANY, 0, [1], False, office)
            self.check(HOW_MANY, 0, [size], False, office)
            self.check(HOW_MANY, 0, [size + 1], True, office)
            self.check(HOW_MANY, 0, [1, size + 1], True, office)
            self.check(HOW_MANY, 0, [0], True, office)
            self.check(HOW_MANY, 0, [0, 1], True, office)
            self.check(HOW_MANY, 0, [TOP], True, office)

    def test_a_row_of_eight(self):
        self.check(HOW_MANY, 0, [1, 2, 3, 4, 5, 6, 7, 8], True)


class AtTheBeginning(unittest.TestCase):
    def test_one_person_of_0_and_1(self):
        self.assertEqual(
            told(ask(TOGETHER, 0, [1]), ask(HOW_MANY, 0, [1]), ask(HOW_MANY, 2, [1]), ask(HOW_MANY, 1, [1])),
            [[-6], [1, 2], [0, 2], [-6]],
        )
        self.assertEqual(told(would(TOGETHER, 0, [1]), would(HOW_MANY, 2, [1])), [[0, 2, 0, 1], [1, 1, 0]])
        self.assertEqual(told(ask(HOW_MANY, 0, [2]), would(HOW_MANY, 0, [1, 2])), [[-1], [-1]])
