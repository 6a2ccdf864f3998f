"""Things that several tests are made of."""

from dotpress.heap import Heap
from dotpress.sheet import Sheet


# Numbers that look drawn by chance, but are the same at every run and under every Python.
def mixed_numbers(seed):
    state = seed
    while True:
        state = (state * 6364136223846793005 + 1442695040888963407) % 2 ** 64
        yield state // 2 ** 33


def own_wires(row):
    return row[1:] if row[0] not in ("fix", "in") else ()


def plain_depths(rows):
    deep = []
    for row in rows:
        own = own_wires(row)
        deep.append(1 + max(deep[wire] for wire in own) if own else 0)
    return deep


def sheet_of_ins(many):
    sheet = Sheet()
    for k in range(many):
        sheet.add(("in", "a", k))
    return sheet


def heap_of(columns):
    heap = Heap(len(columns))
    for k, dots in enumerate(columns):
        for wire in dots:
            heap.put(k, wire)
    return heap


def columns_of(heap):
    return [heap.column(k) for k in range(len(heap.heights()))]


# The same sums and products as Python's own reckoning sees them, each part in brackets.
def python_text(formula):
    if formula[0] in ("name", "number"):
        return str(formula[1])
    parts = [python_text(part) for part in formula[1:]]
    if formula[0] == "turned":
        return "(-" + parts[0] + ")"
    return "(" + {"plus": "+", "less": "-", "times": "*"}[formula[0]].join(parts) + ")"


def mixed_formula(numbers, many, leaves):
    if many == 1:
        return leaves[next(numbers) % len(leaves)]
    kind = ("plus", "less", "times", "turned")[next(numbers) % 4]
    if kind == "turned" or many == 2:
        return ("turned", mixed_formula(numbers, many - 1, leaves))
    first = 1 + next(numbers) % (many - 2)
    return (kind, mixed_formula(numbers, first, leaves), mixed_formula(numbers, many - 1 - first, leaves))
