"""A cake that is cut, trimmed and chosen by three, and its trimmings shared again.

A place is (over, under) in lowest terms, and so is a mark and the worth of a
stretch: two that are the same are equal as tuples. A stretch is its two places.
"""

START = 0
TURN = 1
SAY = 2
ADVISE = 3
CALL_LENGTHS = (2, 1, 6, 2, 2)

CUT = 0
TRIM = 1
PIECE_BY_TWO = 2
PIECE_BY_ONE = 3
PART = 4
PART_BY_HOLDER = 5
PART_BY_ZERO = 6
OVER = 7

DONE = 0
NOT_NOW = -11
NOT_ALLOWED = -22

MOST_CELLS = 64
MOST_WORTH = 1000
# Each holds the under of any advice that the words before it can lead to:
# 3 * 1000, 1000 * 4000 * 4000, 3 * 1000 * 2^34 * 4000.
CUT_UNDER = 4000
TRIM_UNDER = 17179869184
PART_UNDER = 288230376151711744

NO_PLACE = (0, 1)
ALL_THREE = (0, 1, 2)


def common_divisor(first, second):
    while second != 0:
        rest = first % second
        first = second
        second = rest
    return first


def lowest(over, under):
    divisor = common_divisor(over, under)
    return (over // divisor, under // divisor)


def added(first, second):
    return lowest(first[0] * second[1] + second[0] * first[1], first[1] * second[1])


def less(first, second):
    return lowest(first[0] * second[1] - second[0] * first[1], first[1] * second[1])


def is_up_to(first, second):
    return first[0] * second[1] <= second[0] * first[1]


def is_place(place, most_under):
    return 1 <= place[1] <= most_under and common_divisor(place[0], place[1]) == 1


def is_within(place, stretch):
    return is_up_to(stretch[0], place) and is_up_to(place, stretch[1])


def may_cut(stretch, first, second, most_under):
    if not is_place(first, most_under) or not is_place(second, most_under):
        return False
    return is_within(first, stretch) and is_within(second, stretch) and is_up_to(first, second)


def may_trim(piece, place):
    return is_place(place, TRIM_UNDER) and is_within(place, piece)


def cut_in_three(stretch, first, second):
    return [(stretch[0], first), (first, second), (second, stretch[1])]


def third_of(first, second):
    return 3 - first - second


def mark(worth, place):
    cell = place[0] // place[1]
    before = sum(worth[:cell])
    if cell == len(worth):
        return (before, 1)
    inside = place[0] % place[1]
    return lowest(before * place[1] + worth[cell] * inside, place[1])


def stretch_worth(worth, stretch):
    return less(mark(worth, stretch[1]), mark(worth, stretch[0]))


def first_place_with(worth, begin, wanted):
    """The first place from begin on whose mark is wanted, which is not below begin's mark."""
    # Begin itself may lie within or behind cells worth nothing, where the walk would stop too early.
    if mark(worth, begin) == wanted:
        return begin
    cell = 0
    before = 0
    while not is_up_to(wanted, (before + worth[cell], 1)):
        before += worth[cell]
        cell += 1
    # Here before is below wanted, so this cell is worth something.
    under = wanted[1] * worth[cell]
    return lowest(cell * under + wanted[0] - before * wanted[1], under)


def thirds(worth, stretch):
    whole = stretch_worth(worth, stretch)
    third = lowest(whole[0], 3 * whole[1])
    first_mark = added(mark(worth, stretch[0]), third)
    second_mark = added(first_mark, third)
    first = first_place_with(worth, stretch[0], first_mark)
    return (first, first_place_with(worth, stretch[0], second_mark))


def worth_most(worth, stretches, numbers):
    best = numbers[0]
    for number in numbers[1:]:
        if not is_up_to(stretch_worth(worth, stretches[number]), stretch_worth(worth, stretches[best])):
            best = number
    return best


def trim_advised(worth, pieces, which):
    others = [number for number in ALL_THREE if number != which]
    rival = worth_most(worth, pieces, others)
    begin = pieces[which][0]
    wanted = added(mark(worth, begin), stretch_worth(worth, pieces[rival]))
    return first_place_with(worth, begin, wanted)


def advice(which, first, second):
    return [DONE, which, first[0], first[1], second[0], second[1]]


class Sharing:
    """One sharing of one cake, from the cut until it's over."""

    def __init__(self):
        self.begin(MOST_CELLS)

    def begin(self, cells):
        self.cake = (NO_PLACE, (cells, 1))
        self.cells = cells
        self.stage = CUT
        self.pieces = []
        self.piece_of = [0, 0, 0]
        self.trimmed = 0
        self.trimmings = (NO_PLACE, NO_PLACE)
        self.parts = []
        self.part_of = [0, 0, 0]

    def start(self, cells):
        if not 1 <= cells <= MOST_CELLS:
            return [NOT_ALLOWED]
        self.begin(cells)
        return [DONE]

    def holder(self):
        """Who has the trimmed piece: never person 0."""
        return 1 if self.piece_of[1] == self.trimmed else 2

    def parter(self):
        return third_of(0, self.holder())

    def person(self):
        if self.stage == TRIM or self.stage == PIECE_BY_ONE:
            return 1
        if self.stage == PIECE_BY_TWO:
            return 2
        if self.stage == PART:
            return self.parter()
        if self.stage == PART_BY_HOLDER:
            return self.holder()
        return 0

    def turn(self):
        if self.stage == OVER:
            return [OVER]
        return [self.stage + 16 * self.person()]

    def choices(self):
        """The numbers of the pieces or parts that may be chosen at this turn."""
        if self.stage == PIECE_BY_ONE:
            if self.piece_of[2] != self.trimmed:
                return [self.trimmed]
            return [number for number in ALL_THREE if number != self.trimmed]
        if self.stage == PART_BY_ZERO:
            return [number for number in ALL_THREE if number != self.part_of[self.holder()]]
        return list(ALL_THREE)

    def may_say(self, which, first, second):
        if self.stage == CUT:
            return may_cut(self.cake, first, second, CUT_UNDER)
        if self.stage == TRIM:
            return which in ALL_THREE and may_trim(self.pieces[which], first)
        if self.stage == PART:
            return may_cut(self.trimmings, first, second, PART_UNDER)
        return which in self.choices()

    def say(self, which, first, second):
        if self.stage == OVER:
            return [NOT_NOW]
        if not self.may_say(which, first, second):
            return [NOT_ALLOWED]
        if self.stage == CUT:
            self.pieces = cut_in_three(self.cake, first, second)
        elif self.stage == TRIM:
            self.trim(which, first)
        elif self.stage == PART:
            self.parts = cut_in_three(self.trimmings, first, second)
        else:
            self.choose(which)
        self.stage += 1
        if self.stage == PART and self.trimmings[0] == self.trimmings[1]:
            self.end_without_trimmings()
        return [DONE]

    def trim(self, which, place):
        piece = self.pieces[which]
        self.trimmed = which
        self.trimmings = (place, piece[1])
        self.pieces[which] = (piece[0], place)

    def choose(self, which):
        if self.stage == PIECE_BY_TWO:
            self.piece_of[2] = which
        elif self.stage == PIECE_BY_ONE:
            self.piece_of[1] = which
            self.piece_of[0] = third_of(which, self.piece_of[2])
        elif self.stage == PART_BY_HOLDER:
            self.part_of[self.holder()] = which
        else:
            self.part_of[0] = which
            self.part_of[self.parter()] = third_of(which, self.part_of[self.holder()])

    def end_without_trimmings(self):
        self.parts = [self.trimmings, self.trimmings, self.trimmings]
        self.stage = OVER

    def fits(self, worth):
        return len(worth) == self.cells and 0 < max(worth) <= MOST_WORTH

    def advise(self, worth):
        if self.stage == OVER:
            return [NOT_NOW]
        if not self.fits(worth):
            return [NOT_ALLOWED]
        if self.stage == CUT or self.stage == PART:
            places = thirds(worth, self.cake if self.stage == CUT else self.trimmings)
            return advice(0, places[0], places[1])
        stretches = self.pieces if self.stage < PART else self.parts
        which = worth_most(worth, stretches, self.choices())
        if self.stage == TRIM:
            return advice(which, trim_advised(worth, self.pieces, which), NO_PLACE)
        return advice(which, NO_PLACE, NO_PLACE)

    def share(self, who):
        if who not in ALL_THREE:
            return [NOT_ALLOWED]
        if self.stage != OVER:
            return [NOT_NOW]
        piece = self.pieces[self.piece_of[who]]
        part = self.parts[self.part_of[who]]
        told = [DONE]
        for place in (piece[0], piece[1], part[0], part[1]):
            told.extend(place)
        return told


def call_length(calls, at):
    number = calls[at]
    if number == ADVISE:
        return CALL_LENGTHS[ADVISE] + calls[at + 1]
    return CALL_LENGTHS[number]


def answer(sharing, call):
    if call[0] == START:
        return sharing.start(call[1])
    if call[0] == TURN:
        return sharing.turn()
    if call[0] == SAY:
        return sharing.say(call[1], (call[2], call[3]), (call[4], call[5]))
    if call[0] == ADVISE:
        return sharing.advise(call[2:])
    return sharing.share(call[1])


def answers(calls):
    """For each of the calls on a new sharing how many numbers it answers, and these."""
    sharing = Sharing()
    given = []
    at = 0
    while at < len(calls):
        behind = at + call_length(calls, at)
        numbers = answer(sharing, calls[at:behind])
        given.append(len(numbers))
        given.extend(numbers)
        at = behind
    return given
