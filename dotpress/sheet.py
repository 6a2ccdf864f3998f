"""Sheets that keep rows of gates, and what rows tell."""

from dotpress.words import powers_of_two


class Sheet:
    def __init__(self):
        self.rows = []

    def add(self, row):
        self.rows.append(row)
        return len(self.rows) - 1

    def rows_now(self):
        return list(self.rows)


def told(rows, words):
    return beats(rows, [words])[0]


def beats(rows, some):
    powers = powers_for(rows)
    # Latches read the beat before; ahead of beat 0 every wire counts as 0.
    bits = [0] * len(rows)
    answers = []
    for words in some:
        bits = bits_of_beat(rows, words, powers, bits)
        answers.append(bits)
    return answers


# Made once for all rows and beats: doubling up to K anew at every in row would be slow.
def powers_for(rows):
    most = max([row[2] for row in rows if row[0] == "in"], default=-1)
    return powers_of_two(most + 1)


def bits_of_beat(rows, words, powers, before):
    bits = []
    for row in rows:
        kind = row[0]
        if kind == "fix":
            bits.append(row[1])
        elif kind == "in":
            bits.append(words[row[1]] // powers[row[2]] % 2)
        elif kind == "latch":
            bits.append(before[row[1]])
        elif kind == "not":
            bits.append(1 - bits[row[1]])
        else:
            bits.append(bit_of_two(kind, bits[row[1]], bits[row[2]]))
    return bits


def bit_of_two(kind, first, second):
    if kind == "and":
        return first & second
    if kind == "or":
        return first | second
    return first ^ second


# A latch is no gate: what it tells goes by the beat before, not by its wire of now.
def gate_wires(row):
    if row[0] in ("fix", "in", "latch"):
        return []
    return list(row[1:])
