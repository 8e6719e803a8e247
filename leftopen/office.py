"""An office that tells what people have only as long as of everybody enough is left open."""

WRONG = -1
ENOUGH_TOLD = -5
GIVES_AWAY = -6

MOST_PEOPLE = 5
HIGHEST_H = 5
HIGHEST_T = 20
MOST_TOLD = 20

TOGETHER = 0
GREATEST = 1
LEAST = 2
HOW_MANY = 3


def all_worlds(size, h):
    """Every way in which so many people can each have 0 to h."""
    worlds = [()]
    for person in range(size):
        longer = []
        for world in worlds:
            for had in range(h + 1):
                longer.append(world + (had,))
        worlds = longer
    return worlds


def different(numbers):
    """How many different numbers there are, then these, rising."""
    rising = sorted(set(numbers))
    return [len(rising)] + rising


def most_frequent(numbers):
    """The number that stands there most often, of several the lowest."""
    best = numbers[0]
    most = 0
    for number in sorted(set(numbers)):
        often = numbers.count(number)
        if often > most:
            best = number
            most = often
    return best


def lowest_terms(above, below):
    """The part that above is of below, shortened; below isn't 0."""
    # Where above is 0 the greatest that divides both is below itself: so 0 comes out as 0 and 1.
    divisor = below
    rest = above
    while rest > 0:
        left = divisor % rest
        divisor = rest
        rest = left
    return [above // divisor, below // divisor]


def counted(rows):
    """How many rows there are, then the numbers of each."""
    together = [len(rows)]
    for row in rows:
        together.extend(row)
    return together


def leaves_wide(worlds, p):
    """Whether by these worlds everybody's range is p wide at least."""
    for k in range(len(worlds[0])):
        had = [world[k] for world in worlds]
        if max(had) - min(had) < p:
            return False
    return True


class Question:
    """What is asked, the t that goes with it, and the people it is over."""

    def __init__(self, what, t, people):
        self.what = what
        self.t = t
        self.people = people

    def is_wrong(self, size):
        """Whether such a question can't be put where there are so many people."""
        if self.what > HOW_MANY or self.t > HIGHEST_T or len(self.people) == 0:
            return True
        before = 0
        for person in self.people:
            if person <= before or person > size:
                return True
            before = person
        return False

    def as_row(self):
        return [self.what, self.t, len(self.people)] + self.people

    def answer_in(self, world):
        had = [world[person - 1] for person in self.people]
        if self.what == TOGETHER:
            return sum(had)
        if self.what == GREATEST:
            return max(had)
        if self.what == LEAST:
            return min(had)
        return len([number for number in had if number >= self.t])

    def parts(self, worlds):
        """The worlds by the answer that the question has in them."""
        parts = {}
        for world in worlds:
            parts.setdefault(self.answer_in(world), []).append(world)
        return parts


class Office:
    """What people have, how wide their ranges are kept, and the worlds that might be."""

    def __init__(self):
        self.begin(1, 1, [0])

    def begin(self, h, p, numbers):
        self.p = p
        self.truth = tuple(numbers)
        self.might_be = all_worlds(len(numbers), h)
        self.told = []

    def size(self):
        return len(self.truth)

    def has_person(self, i):
        return i >= 1 and i <= self.size()

    def might_have(self, i):
        """What person i has, world by world."""
        return [world[i - 1] for world in self.might_be]

    def would_tell(self, parts):
        # The true answer has no say here: else a refusal would tell something of it.
        for worlds in parts.values():
            if not leaves_wide(worlds, self.p):
                return False
        return True

    def found(self, h, p, numbers):
        if len(numbers) < 1 or len(numbers) > MOST_PEOPLE:
            return [WRONG]
        if h < 1 or h > HIGHEST_H or p < 1 or p > h or max(numbers) > h:
            return [WRONG]
        self.begin(h, p, numbers)
        return self.worlds()

    def ask(self, question):
        if question.is_wrong(self.size()):
            return [WRONG]
        parts = question.parts(self.might_be)
        if not self.would_tell(parts):
            return [GIVES_AWAY]
        if len(self.told) == MOST_TOLD:
            return [ENOUGH_TOLD]
        answer = question.answer_in(self.truth)
        self.might_be = parts[answer]
        self.told.append(question.as_row() + [answer])
        return [answer, len(self.might_be)]

    def would(self, question):
        if question.is_wrong(self.size()):
            return [WRONG]
        parts = question.parts(self.might_be)
        return [1 if self.would_tell(parts) else 0] + different(list(parts))

    def range_of(self, i):
        if not self.has_person(i):
            return [WRONG]
        return different(self.might_have(i))

    def worlds(self):
        return [len(self.might_be)]

    def guess(self, i):
        if not self.has_person(i):
            return [WRONG]
        had = self.might_have(i)
        number = most_frequent(had)
        return [number] + lowest_terms(had.count(number), len(had))

    def both(self, i, j):
        if not self.has_person(i) or not self.has_person(j):
            return [WRONG]
        return counted(sorted(set([(world[i - 1], world[j - 1]) for world in self.might_be])))

    def chance(self, question, v):
        if question.is_wrong(self.size()):
            return [WRONG]
        given = [question.answer_in(world) for world in self.might_be]
        return lowest_terms(given.count(v), len(given))

    def log(self):
        return counted(self.told)

    def free(self):
        pairs = []
        for i in range(1, self.size() + 1):
            for j in range(i, self.size() + 1):
                question = Question(TOGETHER, 0, list(range(i, j + 1)))
                if self.would_tell(question.parts(self.might_be)):
                    pairs.append((i, j))
        return counted(pairs)


class Reader:
    """Goes through the numbers handed in, without changing them."""

    def __init__(self, numbers):
        self.numbers = numbers
        self.place = 0

    def at_end(self):
        return self.place == len(self.numbers)

    def one(self):
        number = self.numbers[self.place]
        self.place += 1
        return number

    def row(self):
        length = self.one()
        row = self.numbers[self.place:self.place + length]
        self.place += length
        return row

    def question(self):
        what = self.one()
        t = self.one()
        return Question(what, t, self.row())


def call_found(office, reader):
    h = reader.one()
    p = reader.one()
    return office.found(h, p, reader.row())


def call_ask(office, reader):
    return office.ask(reader.question())


def call_would(office, reader):
    return office.would(reader.question())


def call_range(office, reader):
    return office.range_of(reader.one())


def call_worlds(office, reader):
    return office.worlds()


def call_guess(office, reader):
    return office.guess(reader.one())


def call_both(office, reader):
    i = reader.one()
    return office.both(i, reader.one())


def call_chance(office, reader):
    what = reader.one()
    t = reader.one()
    v = reader.one()
    return office.chance(Question(what, t, reader.row()), v)


def call_log(office, reader):
    return office.log()


def call_free(office, reader):
    return office.free()


# A call's number is its place here.
CALLS = (
    call_found, call_ask, call_would, call_range, call_worlds,
    call_guess, call_both, call_chance, call_log, call_free,
)


def answers(calls):
    """What a new office answers to these calls: of each how many numbers, then these."""
    office = Office()
    reader = Reader(calls)
    given = []
    while not reader.at_end():
        call = CALLS[reader.one()]
        answer = call(office, reader)
        given.append(len(answer))
        given.extend(answer)
    return given
