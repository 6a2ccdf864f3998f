"""Formulas made into rows of gates that tell their worth, bit by bit."""

from dotpress.carries import summed
from dotpress.errors import TooWide
from dotpress.formulas import built_up, own_widths, parts_of, span_of, span_of_part
from dotpress.heap import Heap, press_by_order, press_by_rounds
from dotpress.sheet import Sheet
from dotpress.words import bits_of, powers_of_two, room_of

MOST_BITS = 48


class Circuit:
    def __init__(self, rows, outs, below):
        self.rows = rows
        self.outs = outs
        self.below = below


# What is to be added up for a part of a formula: dots, each a tuple (COLUMN, WIRE, SIGN) with the sign 1 or -1, and
# a number beside them. Sums are kept so, apart, until the whole of them is pressed at once.
class Addends:
    def __init__(self, dots, number):
        self.dots = dots
        self.number = number


class Maker:
    def __init__(self, widths, order, splits):
        self.sheet = Sheet()
        self.widths = widths
        self.order = order
        self.splits = splits

    def addends_of(self, part, own):
        kind = part[0]
        if kind == "name":
            return self.addends_of_name(part[1])
        if kind == "number":
            return Addends([], part[1])
        if kind == "turned":
            return turned(own[0])
        if kind == "plus":
            return added(own[0], own[1])
        if kind == "less":
            return added(own[0], turned(own[1]))
        sides = [self.side_of(side, addends) for side, addends in zip(parts_of(part), own)]
        return self.multiplied(sides[0], sides[1])

    def addends_of_name(self, name):
        width = self.widths[name]
        wires = [self.sheet.add(("in", name, k)) for k in range(abs(width))]
        return Addends(dots_of_word(wires, width < 0), 0)

    # A product has a dot for each two dots of its sides, so a side with many of them becomes a word first.
    def side_of(self, part, addends):
        if part[0] == "name" or len(addends.dots) == 0:
            return addends
        room = room_of(span_of(part, self.widths))
        return Addends(dots_of_word(self.word_of(addends, room[0]), room[1]), 0)

    def multiplied(self, first, second):
        products = dots_times(first.dots, second.number) + dots_times(second.dots, first.number)
        for one in first.dots:
            for other in second.dots:
                both = self.sheet.add(("and", one[1], other[1]))
                products.append((one[0] + other[0], both, one[2] * other[2]))
        return Addends(products, first.number * second.number)

    def word_of(self, addends, many):
        heap = self.heap_of(addends, many)
        if self.order is None:
            press_by_rounds(self.sheet, heap)
        else:
            press_by_order(self.sheet, heap, self.order)
        return summed(self.sheet, heap, self.splits)

    def heap_of(self, addends, many):
        heap = Heap(many)
        powers = powers_of_two(many)
        number = addends.number
        # Dots beyond the last column count for nothing, and are to make no rows either.
        for column, wire, sign in [dot for dot in addends.dots if dot[0] < many]:
            if sign > 0:
                heap.put(column, wire)
            else:
                # To take a bit off is to put its not, and to take one off.
                heap.put(column, self.sheet.add(("not", wire)))
                number = number - powers[column]
        one = self.sheet.add(("fix", 1))
        for column, bit in enumerate(bits_of(number, many)):
            if bit == 1:
                heap.put(column, one)
        return heap


def circuit_of(formula, widths, order=None, splits=None):
    own = own_widths(formula, widths)
    room = room_of(built_up(formula, lambda part, spans: narrow_span(part, spans, own)))
    maker = Maker(own, order, [] if splits is None else splits)
    addends = built_up(formula, lambda part, parts: maker.addends_of(part, parts))
    outs = maker.word_of(addends, room[0])
    return Circuit(maker.sheet.rows_now(), outs, room[1])


def narrow_span(part, spans, widths):
    span = span_of_part(part, spans, widths)
    many = room_of(span)[0]
    if many > MOST_BITS:
        raise TooWide(f"a part needs {many} bits")
    return span


def dots_of_word(wires, below):
    dots = [(k, wire, 1) for k, wire in enumerate(wires)]
    if below:
        last = dots.pop()
        dots.append((last[0], last[1], -1))
    return dots


def added(first, second):
    return Addends(first.dots + second.dots, first.number + second.number)


def turned(addends):
    return Addends(dots_times(addends.dots, -1), -addends.number)


def dots_times(dots, number):
    sign = -1 if number < 0 else 1
    answer = []
    # A number that is a side of a product is its part's whole worth, so it has no more bits than a part may have.
    for place, bit in enumerate(bits_of(abs(number), MOST_BITS)):
        if bit == 1:
            answer.extend([(column + place, wire, old_sign * sign) for column, wire, old_sign in dots])
    return answer
