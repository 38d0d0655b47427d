"""What the tests share: calls and answers by name, a slow model of the document, and drawn words.

The model keeps only the words that were said and works everything out anew from
them, with Python's own fractions, so that it has little in common with the program.
"""

from fractions import Fraction
from math import ceil, floor

from cakeshares.cake import answers

LIMITS = {0: 4000, 1: 2 ** 34, 4: 2 ** 58}
ZERO = Fraction(0)


def start(cells):
    return [0, cells]


def turn():
    return [1]


def say(which=0, first=(0, 1), second=(0, 1)):
    return [2, which] + pair(first) + pair(second)


def advise(worth):
    return [3, len(worth)] + list(worth)


def share(who):
    return [4, who]


def pair(place):
    """A pair stays as it is, so that one not in lowest terms can be said too."""
    if isinstance(place, tuple):
        return list(place)
    return [Fraction(place).numerator, Fraction(place).denominator]


def flat(calls):
    return [number for call in calls for number in call]


def run(calls):
    """The answers to the calls, one list each."""
    return split(answers(flat(calls)))


def split(numbers):
    given = []
    at = 0
    while at < len(numbers):
        given.append(numbers[at + 1:at + 1 + numbers[at]])
        at += 1 + numbers[at]
    if at != len(numbers):
        raise ValueError("the last answer is cut off")
    return given


def last(calls):
    return run(calls)[-1]


def places(numbers):
    """Over and under by turns, as fractions; each pair must be in lowest terms."""
    told = []
    for over, under in zip(numbers[::2], numbers[1::2]):
        place = Fraction(over, under)
        if (place.numerator, place.denominator) != (over, under):
            raise ValueError("not in lowest terms: " + str((over, under)))
        told.append(place)
    return told


def shares(calls):
    """Each person's two stretches at the end of a line that's over."""
    told = []
    for answer in run(calls + [share(who) for who in range(3)])[-3:]:
        if answer[0] != 0:
            raise ValueError("it isn't over")
        begins, ends, part_begins, part_ends = places(answer[1:])
        told.append(((begins, ends), (part_begins, part_ends)))
    return told


def mark(worth, place):
    """Cell by cell, as much of each number as lies before the place."""
    return sum((number * min(max(place - cell, ZERO), 1) for cell, number in enumerate(worth)), ZERO)


def value(worth, stretches):
    return sum((mark(worth, end) - mark(worth, begin) for begin, end in stretches), ZERO)


def first_place(worth, begin, end, wanted):
    """The first place from begin to end with the wanted mark, bend by bend."""
    bends = [begin] + [Fraction(cell) for cell in range(len(worth) + 1) if begin < cell < end] + [end]
    if mark(worth, begin) == wanted:
        return begin
    for left, right in zip(bends, bends[1:]):
        low = mark(worth, left)
        high = mark(worth, right)
        if low < wanted <= high:
            return left + (right - left) * (wanted - low) / (high - low)
    raise ValueError("no such place")


def three(stretch, first, second):
    return [(stretch[0], first), (first, second), (second, stretch[1])]


class Model:
    def __init__(self, cells):
        self.cells = cells
        self.words = []

    def pieces(self):
        first, second = self.words[0][1:]
        cut = three((ZERO, Fraction(self.cells)), first, second)
        if len(self.words) > 1:
            which, place, ignored = self.words[1]
            cut[which] = (cut[which][0], place)
        return cut

    def trimmings(self):
        first, second = self.words[0][1:]
        which, place, ignored = self.words[1]
        return (place, [first, second, Fraction(self.cells)][which])

    def holder(self):
        return 2 if self.words[2][0] == self.words[1][0] else 1

    def stage(self):
        said = len(self.words)
        if said == 4 and self.trimmings()[0] == self.trimmings()[1]:
            return 7
        return said

    def person(self):
        stage = self.stage()
        if stage == 4:
            return {1: 2, 2: 1}[self.holder()]
        if stage == 5:
            return self.holder()
        return [0, 1, 2, 1, None, None, 0][stage]

    def turn(self):
        return 7 if self.stage() == 7 else self.stage() + 16 * self.person()

    def stretch(self, which=0):
        """Where the places of this turn's word must lie."""
        if self.stage() == 0:
            return (ZERO, Fraction(self.cells))
        return self.pieces()[which] if self.stage() == 1 else self.trimmings()

    def choices(self):
        if self.stage() == 3:
            left = {0, 1, 2} - {self.words[2][0]}
            return sorted(left & {self.words[1][0]} or left)
        if self.stage() == 6:
            return sorted({0, 1, 2} - {self.words[5][0]})
        return [0, 1, 2]

    def say(self, which, over0, under0, over1, under1):
        stage = self.stage()
        if stage == 7:
            return [-11]
        if stage not in (0, 4) and which not in self.choices():
            return [-22]
        named = {0: 2, 1: 1, 4: 2}.get(stage, 0)
        word = [which, ZERO, ZERO]
        for number, (over, under) in enumerate([(over0, under0), (over1, under1)][:named]):
            if not 1 <= under <= LIMITS[stage] or pair(Fraction(over, under)) != [over, under]:
                return [-22]
            word[1 + number] = Fraction(over, under)
        if named:
            row = [self.stretch(which)[0]] + word[1:1 + named] + [self.stretch(which)[1]]
            if row != sorted(row):
                return [-22]
        self.words.append(word)
        return [0]

    def best(self, worth, stretches, numbers):
        return max(numbers, key=lambda number: (value(worth, [stretches[number]]), -number))

    def advise(self, worth):
        stage = self.stage()
        if stage == 7:
            return [-11]
        if len(worth) != self.cells or max(worth) > 1000 or not any(worth):
            return [-22]
        word = [0, ZERO, ZERO]
        if stage in (0, 4):
            begin, end = self.stretch()
            low = mark(worth, begin)
            high = mark(worth, end)
            word[1] = first_place(worth, begin, end, low + (high - low) / 3)
            word[2] = first_place(worth, begin, end, high - (high - low) / 3)
        elif stage == 1:
            values = [value(worth, [piece]) for piece in self.pieces()]
            word[0] = values.index(max(values))
            begin, end = self.pieces()[word[0]]
            word[1] = first_place(worth, begin, end, mark(worth, begin) + sorted(values)[1])
        elif stage in (2, 3):
            word[0] = self.best(worth, self.pieces(), self.choices())
        else:
            word[0] = self.best(worth, self.parts(), self.choices())
        return [0, word[0]] + pair(word[1]) + pair(word[2])

    def parts(self):
        return three(self.trimmings(), self.words[4][1], self.words[4][2])

    def share(self, who):
        if who > 2:
            return [-22]
        if self.stage() != 7:
            return [-11]
        by_two, by_one = self.words[2][0], self.words[3][0]
        begin, end = self.pieces()[[3 - by_two - by_one, by_one, by_two][who]]
        part = self.trimmings()
        if len(self.words) > 4:
            by_holder, by_zero = self.words[5][0], self.words[6][0]
            number = {self.holder(): by_holder, 0: by_zero}.get(who, 3 - by_holder - by_zero)
            part = self.parts()[number]
        return [0] + pair(begin) + pair(end) + pair(part[0]) + pair(part[1])


def model_answers(calls):
    model = None
    given = []
    for call in calls:
        if call[0] == 0:
            fine = 1 <= call[1] <= 64
            model = Model(call[1]) if fine else model
            given.append([0] if fine else [-22])
        elif call[0] == 1:
            given.append([model.turn()])
        elif call[0] == 2:
            given.append(model.say(*call[1:]))
        elif call[0] == 3:
            given.append(model.advise(call[2:]))
        else:
            given.append(model.share(call[1]))
    return given


def drawn_place(draw, stretch, most):
    """A place of the stretch that may be said, often at an edge or with an under near the most."""
    begin, end = stretch
    kind = draw.randrange(8)
    if kind == 0:
        return begin
    if kind == 1:
        return end
    under = 1 if kind == 2 else draw.randint(max(1, most - 8), most) if kind < 5 else draw.randint(1, most)
    low = ceil(begin * under)
    high = floor(end * under)
    if low > high:
        return draw.choice([begin, end])
    return Fraction(draw.randint(low, high), under)


def drawn_word(draw, model):
    """Any word that may be said at the model's turn, as a call."""
    stage = model.stage()
    which = draw.choice(model.choices())
    if stage not in LIMITS:
        return say(which)
    stretch = model.stretch(which)
    first, second = sorted(drawn_place(draw, stretch, LIMITS[stage]) for ignored in range(2))
    if stage == 1:
        return say(which, first)
    return say(which, first, second)


def drawn_worth(draw, cells):
    """A worth that may be told, often with many cells worth nothing, or all alike."""
    kind = draw.randrange(5)
    if kind == 0:
        worth = [draw.choice([0, 0, 0, draw.randint(1, 1000)]) for ignored in range(cells)]
    elif kind == 1:
        worth = [draw.randint(0, 2) for ignored in range(cells)]
    elif kind == 2:
        worth = [draw.randint(990, 1000) for ignored in range(cells)]
    elif kind == 3:
        worth = [draw.randint(1, 1000)] * cells
    else:
        worth = [draw.randint(0, 1000) for ignored in range(cells)]
    if not any(worth):
        worth[draw.randrange(cells)] = draw.randint(1, 1000)
    return worth


def drawn_cells(draw):
    return draw.choice([1, 2, 3, draw.randint(1, 8), draw.randint(1, 64), 64])


def wild_number(draw, bits):
    kind = draw.randrange(4)
    if kind == 0:
        return draw.randint(0, 5)
    if kind == 1:
        return draw.randrange(2 ** draw.randint(1, bits))
    if kind == 2:
        return 2 ** bits - 1 - draw.randint(0, 1)
    return min(2 ** bits - 1, draw.choice(list(LIMITS.values())) + draw.randint(-1, 1))


def wild_say(draw):
    return [2, wild_number(draw, 32)] + [wild_number(draw, 64) for ignored in range(4)]


def bent_word(draw, model):
    """A word that may be said, with one of its numbers a little off, or one place not in lowest terms."""
    word = drawn_word(draw, model)
    kind = draw.randrange(3)
    if kind == 0:
        number = draw.randint(1, 5)
        word[number] = max(0, word[number] + draw.choice([-1, 1]))
    elif kind == 1:
        number = draw.choice([2, 4])
        word[number:number + 2] = [2 * word[number], 2 * word[number + 1]]
    else:
        word[2:] = word[4:] + word[2:4]
    return [word[0]] + [min(number, 2 ** 64 - 1) for number in word[1:]]


def wild_worth(draw, cells):
    worth = drawn_worth(draw, cells)
    kind = draw.randrange(8)
    if kind == 0:
        worth[draw.randrange(cells)] = draw.choice([1000, 1001, 65535])
    elif kind == 1:
        worth.append(1)
    elif kind == 2:
        worth.pop()
    elif kind == 3:
        worth = [0] * cells
    return worth


def drawn_call(draw, model):
    kind = draw.randrange(20)
    if kind < 8 and model.stage() != 7:
        return drawn_word(draw, model)
    if kind < 10 and model.stage() != 7:
        return bent_word(draw, model)
    if kind < 11:
        return wild_say(draw)
    if kind < 14:
        return advise(wild_worth(draw, model.cells))
    if kind < 16:
        return turn()
    if kind < 19:
        return share(draw.choice([0, 1, 2, 3, wild_number(draw, 32)]))
    return start(draw.choice([0, 65, wild_number(draw, 32)]))


def drawn_line(draw, longest):
    model = Model(drawn_cells(draw))
    line = [start(model.cells)]
    for ignored in range(draw.randint(1, longest)):
        if draw.randrange(12) == 0 or (model.stage() == 7 and draw.randrange(4) == 0):
            model = Model(drawn_cells(draw))
            line.append(start(model.cells))
            continue
        call = drawn_call(draw, model)
        line.append(call)
        if call[0] == 2:
            model.say(*call[1:])
        elif call[0] == 0 and 1 <= call[1] <= 64:
            model = Model(call[1])
    return line
