"""Rows cut into stages, so that they take new numbers at every beat."""

from dotpress.depth import depths
from dotpress.fewer import moved, only_needed
from dotpress.sheet import gate_wires


class StagedRows:
    def __init__(self):
        self.rows = []
        # For each old wire the new wires that tell it no, one, two .. beats later, as many as were asked for.
        self.delayed = []

    def take(self, row):
        self.delayed.append([self.place_of(row)])

    def place_of(self, row):
        self.rows.append(row)
        return len(self.rows) - 1

    def later(self, wire, many):
        chain = self.delayed[wire]
        # A fix tells the same at every beat, so it needs no latches.
        if self.rows[chain[0]][0] == "fix":
            return chain[0]
        while len(chain) <= many:
            chain.append(self.place_of(("latch", chain[-1])))
        return chain[many]


def staged(rows, outs, most):
    # What no out needs is left out, as it would take latches for nothing.
    needed = only_needed(rows, outs)
    ends = needed[1]
    stages = [max(depth - 1, 0) // most for depth in depths(needed[0])]
    last = max([stages[end] for end in ends], default=0)
    cut = StagedRows()
    for row, stage in zip(needed[0], stages):
        places = {}
        for own in gate_wires(row):
            places[own] = cut.later(own, stage - stages[own])
        cut.take(moved(row, places))
    # An out of an earlier stage waits for the last one, so that all of them tell of the same beat.
    new_outs = [cut.later(end, last - stages[end]) for end in ends]
    return (cut.rows, new_outs, last)
