"""How deep the wires of rows lie, and the ways that make them so deep."""

from dotpress.sheet import gate_wires


def depths(rows):
    deep = []
    for row in rows:
        # A row that is no gate goes by no wires: one more than -1 makes its depth 0.
        deep.append(1 + max([deep[own] for own in gate_wires(row)], default=-1))
    return deep


def longest_way(rows, wire):
    deep = depths(rows)
    way = [wire]
    while deep[way[-1]] > 0:
        # The deepest of a gate's own wires is just one less deep than the gate, so no step is lost.
        way.append(max(gate_wires(rows[way[-1]]), key=lambda own: deep[own]))
    way.reverse()
    return way
