"""Many lines against a second writing of the document, kept as close to its words as can be."""

import fractions
import itertools
import random
import unittest

from leftopen.office import answers
from lines import FREE, LOG, WORLDS, ask, both, chance, found, guess, line, range_of, told, would


class Model:
    """Keeps what was told, and finds the worlds that might be from all worlds every time."""

    def __init__(self):
        self.h, self.p, self.has, self.log = 1, 1, (0,), []

    def answer(self, question, world):
        what, t, people = question
        had = sorted(world[i - 1] for i in people)
        return (sum(had), had[-1], had[0], sum(x >= t for x in had))[what]

    def worlds(self):
        every = itertools.product(range(self.h + 1), repeat=len(self.has))
        return [w for w in every if all(self.answer(q, w) == said for q, said in self.log)]

    def might_answer(self, question):
        return sorted({self.answer(question, w) for w in self.worlds()})

    def tells(self, question):
        worlds = self.worlds()
        for said in self.might_answer(question):
            left = [w for w in worlds if self.answer(question, w) == said]
            for had in zip(*left):
                if max(had) - min(had) < self.p:
                    return False
        return True

    def refuses(self, question):
        what, t, people = question
        those = set(range(1, len(self.has) + 1))
        return what > 3 or t > 20 or not people or list(people) != sorted(set(people)) or not set(people) <= those

    def found(self, h, p, numbers):
        if len(numbers) not in range(1, 6) or h not in range(1, 6) or p not in range(1, h + 1):
            return [-1]
        if any(number > h for number in numbers):
            return [-1]
        self.h, self.p, self.has, self.log = h, p, tuple(numbers), []
        return [len(self.worlds())]

    def ask(self, question):
        if self.refuses(question):
            return [-1]
        if not self.tells(question):
            return [-6]
        if len(self.log) == 20:
            return [-5]
        said = self.answer(question, self.has)
        self.log.append((question, said))
        return [said, len(self.worlds())]

    def would(self, question):
        if self.refuses(question):
            return [-1]
        said = self.might_answer(question)
        return [int(self.tells(question)), len(said)] + said

    def range_of(self, i):
        if not self.people_are_there(i):
            return [-1]
        had = sorted({w[i - 1] for w in self.worlds()})
        return [len(had)] + had

    def people_are_there(self, *people):
        return all(i in range(1, len(self.has) + 1) for i in people)

    def part(self, fits):
        worlds = self.worlds()
        part = fractions.Fraction(sum(fits(w) for w in worlds), len(worlds))
        return [part.numerator, part.denominator]

    def guess(self, i):
        if not self.people_are_there(i):
            return [-1]
        often = [sum(w[i - 1] == had for w in self.worlds()) for had in range(self.h + 1)]
        best = often.index(max(often))
        return [best] + self.part(lambda w: w[i - 1] == best)

    def both(self, i, j):
        if not self.people_are_there(i, j):
            return [-1]
        worlds = self.worlds()
        pairs = [
            [a, b] for a in range(self.h + 1) for b in range(self.h + 1)
            if any(w[i - 1] == a and w[j - 1] == b for w in worlds)
        ]
        return [len(pairs)] + line(pairs)

    def chance(self, question, v):
        if self.refuses(question):
            return [-1]
        return self.part(lambda w: self.answer(question, w) == v)

    def told(self):
        return [len(self.log)] + line([w, t, len(people), *people, said] for (w, t, people), said in self.log)

    def free(self):
        those = range(1, len(self.has) + 1)
        pairs = [
            [i, j] for i in those for j in those
            if i <= j and self.tells((0, 0, tuple(k for k in those if i <= k <= j)))
        ]
        return [len(pairs)] + line(pairs)

    def reply(self, call):
        if call[0] == 0:
            return self.found(call[1], call[2], call[4:])
        if call[0] in (1, 2):
            question = (call[1], call[2], tuple(call[4:]))
            return self.ask(question) if call[0] == 1 else self.would(question)
        if call[0] == 7:
            return self.chance((call[1], call[2], tuple(call[5:])), call[3])
        if call[0] == 4:
            return [len(self.worlds())]
        return {3: self.range_of, 5: self.guess, 6: self.both, 8: self.told, 9: self.free}[call[0]](*call[1:])


def some_people(dice, size):
    if dice.random() < 0.1:
        return [dice.randrange(size + 2) for k in range(dice.randrange(4))]
    if dice.random() < 0.4:
        return list(range(1, size + 1))
    return sorted(dice.sample(range(1, size + 1), dice.randint(1, size)))


def some_person(dice, size):
    return dice.choice((0, size + 1)) if dice.random() < 0.1 else dice.randint(1, size)


def some_call(dice, size, h):
    kind = dice.choice((1, 1, 1, 1, 1, 1, 2, 2, 3, 4, 5, 6, 7, 7, 8, 9))
    if kind in (3, 5):
        return (range_of if kind == 3 else guess)(some_person(dice, size))
    if kind == 6:
        return both(some_person(dice, size), some_person(dice, size))
    if kind in (4, 8, 9):
        return {4: WORLDS, 8: LOG, 9: FREE}[kind]
    what = dice.choice((0, 1, 2, 3, 3, 3, 3, 4 if dice.random() < 0.1 else 0))
    t = dice.choice((20, 21)) if dice.random() < 0.05 else dice.randrange(h + 2)
    people = some_people(dice, size)
    if kind == 7:
        return chance(what, t, dice.randrange(h * 2 if what == 0 else h + 1), people)
    return (ask if kind == 1 else would)(what, t, people)


def some_found(dice, size, h):
    numbers = [dice.randint(0, h) for k in range(size)]
    if dice.random() < 0.1:
        return found(dice.randrange(8), dice.randrange(4), numbers)
    return found(h, dice.choice((1, 1, 2, h)), numbers)


def some_line(dice):
    size, h = 1, 1
    calls = []
    for k in range(dice.randint(1, 35)):
        if dice.random() < (0.8 if k == 0 else 0.04):
            size, h = dice.randint(1, 5), dice.choice((1, 2, 3, 4, 5, 5, 5))
            if (h + 1) ** size > 300:
                size = 3
            calls.append(some_found(dice, size, h))
            # Once this is told, more may be told than of a new office.
            if dice.random() < 0.6:
                calls.append(ask(3, (h + 1) // 2, list(range(1, size + 1))))
        else:
            calls.append(some_call(dice, size, h))
    return calls[:40]


class AgainstTheModel(unittest.TestCase):
    def test_many_lines(self):
        dice = random.Random(20261118)
        seen = set()
        for k in range(300):
            calls = some_line(dice)
            model = Model()
            expected = [model.reply(call) for call in calls]
            self.assertEqual(told(*calls), expected, calls)
            self.assertEqual(answers(line(calls)), line([len(a)] + a for a in expected))
            seen.update((call[0], answer[0]) for call, answer in zip(calls, expected))
        # The lines are of use only if they come upon what matters.
        for wanted in (
            (0, -1), (1, -1), (1, -6), (1, 0), (1, 3), (2, 0), (2, 1), (2, -1), (3, -1), (3, 3),
            (5, -1), (5, 0), (5, 3), (6, -1), (6, 2), (6, 36), (7, -1), (7, 0), (7, 1), (7, 2), (8, 0), (8, 5),
            (9, 0), (9, 1),
        ):
            self.assertIn(wanted, seen)
