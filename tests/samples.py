"""Things that several tests are made of."""

import itertools
import re

from dotpress.heap import Heap
from dotpress.sheet import Sheet

GATES_OF_TWO = ("and", "or", "xor")

INS = [("in", "a", 0), ("in", "a", 1), ("in", "b", 0), ("in", "b", 1)]

GREATEST = 10 ** 12


# Numbers that look drawn by chance, but are the same at every run and under every Python.
def mixed_numbers(seed):
    state = seed
    while True:
        state = (state * 6364136223846793005 + 1442695040888963407) % 2 ** 64
        yield state // 2 ** 33


def own_wires(row):
    return row[1:] if row[0] not in ("fix", "in") else ()


def plain_depths(rows):
    deep = []
    for row in rows:
        own = own_wires(row) if row[0] != "latch" else ()
        deep.append(1 + max(deep[wire] for wire in own) if own else 0)
    return deep


def mixed_rows(numbers, many):
    rows = []
    for wire in range(many):
        choice = next(numbers) % 12
        if wire == 0 or choice < 2:
            rows.append(INS[next(numbers) % 4])
        elif choice == 2:
            rows.append(("fix", next(numbers) % 2))
        elif choice < 6:
            rows.append(("not", next(numbers) % wire))
        else:
            rows.append((GATES_OF_TWO[choice % 3], next(numbers) % wire, next(numbers) % wire))
    return rows


def sheet_of_ins(many):
    sheet = Sheet()
    for k in range(many):
        sheet.add(("in", "a", k))
    return sheet


def heap_of(columns):
    heap = Heap(len(columns))
    for k, dots in enumerate(columns):
        for wire in dots:
            heap.put(k, wire)
    return heap


def columns_of(heap):
    return [heap.column(k) for k in range(len(heap.heights()))]


# The same sums and products as Python's own reckoning sees them, each part in brackets.
def python_text(formula):
    if formula[0] in ("name", "number"):
        return str(formula[1])
    parts = [python_text(part) for part in formula[1:]]
    if formula[0] == "turned":
        return "(-" + parts[0] + ")"
    return "(" + {"plus": "+", "less": "-", "times": "*"}[formula[0]].join(parts) + ")"


def mixed_formula(numbers, many, leaves):
    if many == 1:
        return leaves[next(numbers) % len(leaves)]
    kind = ("plus", "less", "times", "turned")[next(numbers) % 4]
    if kind == "turned" or many == 2:
        return ("turned", mixed_formula(numbers, many - 1, leaves))
    first = 1 + next(numbers) % (many - 2)
    return (kind, mixed_formula(numbers, first, leaves), mixed_formula(numbers, many - 1 - first, leaves))


def plain_worth(formula, words):
    return eval(python_text(formula), {}, dict(words))


def names_in(formula):
    if formula[0] == "name":
        return {formula[1]}
    if formula[0] == "number":
        return set()
    return set().union(*[names_in(part) for part in formula[1:]])


# Each number that a name of this width stands for.
def numbers_of(width):
    if width > 0:
        return range(2 ** width)
    return range(-(2 ** (-width - 1)), 2 ** (-width - 1))


# Of a formula and of each of its parts, the formula's own last.
def plain_spans(formula, widths):
    if formula[0] == "name":
        every = numbers_of(widths[formula[1]])
        return [(every[0], every[-1])]
    if formula[0] == "number":
        return [(formula[1], formula[1])]
    spans = [plain_spans(part, widths) for part in formula[1:]]
    ends = list(itertools.product(*[own[-1] for own in spans]))
    turn = {"turned": lambda one: -one[0], "times": lambda two: two[0] * two[1], "plus": sum}
    reckon = turn.get(formula[0], lambda two: two[0] - two[1])
    worths = [reckon(some) for some in ends]
    return [span for own in spans for span in own] + [(min(worths), max(worths))]


def plain_room(span):
    low, high = span
    if low >= 0:
        return (max(high.bit_length(), 1), False)
    return (max(max(high, 0).bit_length(), (-low - 1).bit_length()) + 1, True)


def most_bits(formula, widths):
    return max(plain_room(span)[0] for span in plain_spans(formula, widths))


# What each wire tells for many dicts at once: a number whose bit k is what the wire tells for dict k.
def told_at_once(rows, some):
    every = 2 ** len(some) - 1
    told = []
    for row in rows:
        own = [told[wire] for wire in own_wires(row)]
        if row[0] == "fix":
            told.append(every * row[1])
        elif row[0] == "in":
            told.append(sum((words[row[1]] >> row[2] & 1) << k for k, words in enumerate(some)))
        elif row[0] == "not":
            told.append(every ^ own[0])
        else:
            two = {"and": own[0] & own[-1], "or": own[0] | own[-1], "xor": own[0] ^ own[-1]}
            told.append(two[row[0]])
    return told


# The numbers that the outs' bits stand for, one for each dict.
def worths_told(rows, outs, below, some):
    told = told_at_once(rows, some)
    worths = []
    for k in range(len(some)):
        number = sum((told[out] >> k & 1) << place for place, out in enumerate(outs))
        if below and number >= 2 ** (len(outs) - 1):
            number = number - 2 ** len(outs)
        worths.append(number)
    return worths


# All dicts of numbers within small widths; for wide ones the ends, the numbers around nought, and some between.
def some_words(numbers, widths, many):
    picks = []
    every = {name: numbers_of(width) for name, width in widths.items()}
    if sum(abs(width) for width in widths.values()) <= 8:
        return [dict(zip(every, some)) for some in itertools.product(*every.values())]
    for turn in range(many):
        words = {}
        for name, own in every.items():
            near = [own[0], own[-1], own[-1] // 2, 0, own[next(numbers) % len(own)], own[next(numbers) % len(own)]]
            words[name] = near[next(numbers) % len(near)]
        picks.append(words)
    lows = {name: own[0] for name, own in every.items()}
    highs = {name: own[-1] for name, own in every.items()}
    return picks + [lows, highs]


# The same as read, done another way: parted at the last sign that joins two parts, outermost. None for no formula.
def plain_read(text):
    for kinds in ({"+": "plus", "-": "less"}, {"*": "times"}):
        deep = 0
        for place in range(len(text) - 1, 0, -1):
            sign = text[place]
            deep = deep + (sign == ")") - (sign == "(")
            if deep == 0 and sign in kinds and text[place - 1] not in "+-*(":
                parts = (plain_read(text[:place]), plain_read(text[place + 1:]))
                return None if None in parts else (kinds[sign],) + parts
    if re.fullmatch("[a-z]{1,6}", text):
        return ("name", text)
    if re.fullmatch("0|[1-9][0-9]*", text):
        return ("number", int(text)) if int(text) <= GREATEST else None
    if text[:1] == "-":
        inner = plain_read(text[1:])
        return None if inner is None else ("turned", inner)
    if text[:1] == "(" and text[-1:] == ")":
        return plain_read(text[1:-1])
    return None
