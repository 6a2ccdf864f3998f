"""Rows made fewer: fix wires folded in, like rows shared, and rows that no out needs left out."""

from dotpress.sheet import gate_wires


class SharedRows:
    def __init__(self):
        self.rows = []
        self.wires = {}

    def wire_of(self, row):
        if row not in self.wires:
            self.wires[row] = len(self.rows)
            self.rows.append(row)
        return self.wires[row]


def fewer(rows, outs):
    shared = SharedRows()
    # For each old wire the new one that tells the same. An old row makes at most one new row, and none that is
    # deeper, so neither the rows nor the depths can grow.
    news = []
    for row in rows:
        news.append(folded(shared, row, news))
    return only_needed(shared.rows, [news[out] for out in outs])


def folded(shared, row, news):
    kind = row[0]
    if kind == "fix" or kind == "in":
        return shared.wire_of(row)
    if kind == "not":
        return folded_not(shared, news[row[1]])
    return folded_two(shared, kind, news[row[1]], news[row[2]])


def folded_not(shared, wire):
    row = shared.rows[wire]
    if row[0] == "fix":
        return shared.wire_of(("fix", 1 - row[1]))
    if row[0] == "not":
        return row[1]
    return shared.wire_of(("not", wire))


def folded_two(shared, kind, first, second):
    if first == second:
        return shared.wire_of(("fix", 0)) if kind == "xor" else first
    if shared.rows[first][0] == "fix":
        return folded_fix(shared, kind, first, second)
    if shared.rows[second][0] == "fix":
        return folded_fix(shared, kind, second, first)
    # The lower wire goes first, so that rows alike but for the order of their wires are alike.
    return shared.wire_of((kind, min(first, second), max(first, second)))


def folded_fix(shared, kind, fix, other):
    bit = shared.rows[fix][1]
    if kind == "xor":
        return folded_not(shared, other) if bit == 1 else other
    # The bit that settles the gate whatever the other wire tells: 0 for and, 1 for or.
    settling = 0 if kind == "and" else 1
    return fix if bit == settling else other


def only_needed(rows, outs):
    needed = needed_wires(rows, outs)
    kept = []
    places = {}
    for wire, row in enumerate(rows):
        if needed[wire]:
            places[wire] = len(kept)
            kept.append(moved(row, places))
    return (kept, [places[out] for out in outs])


def needed_wires(rows, outs):
    needed = [False] * len(rows)
    for out in outs:
        needed[out] = True
    # From the last row on, as a row is needed by rows behind it alone.
    for wire in range(len(rows) - 1, -1, -1):
        if needed[wire]:
            for own in gate_wires(rows[wire]):
                needed[own] = True
    return needed


def moved(row, places):
    wires = gate_wires(row)
    if len(wires) == 0:
        return row
    return tuple([row[0]] + [places[wire] for wire in wires])
