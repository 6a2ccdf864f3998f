"""A desk that is told lines: it makes circuits of formulas, and asks them."""

from dotpress.errors import NoCircuit, NoName, OutOfWidth
from dotpress.fewer import fewer
from dotpress.formulas import own_widths, span_of
from dotpress.lines import read_line
from dotpress.making import Circuit, circuit_of
from dotpress.sheet import told
from dotpress.text import read, shown
from dotpress.words import number_of, span_of_width


class Desk:
    def __init__(self):
        self.widths = {}
        # None stands for rounds.
        self.order = None
        self.splits = []
        self.circuit = None
        # What the names of the circuit's formula stood for when it was made: their widths may change since.
        self.spans = {}

    def say(self, line):
        said = read_line(line)
        kind = said[0]
        if kind == "make":
            return self.make(read(said[1]))
        if kind == "ask":
            return self.ask(said[1])
        if kind == "span":
            return self.span_text(read(said[1]))
        if kind == "show":
            return shown(read(said[1]))
        self.keep(said)
        return "ok"

    def keep(self, said):
        kind = said[0]
        if kind == "width":
            self.widths[said[1]] = said[2]
        elif kind == "order":
            self.order = said[1]
        else:
            self.splits = said[1]

    def make(self, formula):
        made = circuit_of(formula, self.widths, self.order, self.splits)
        few = fewer(made.rows, made.outs)
        self.circuit = Circuit(few[0], few[1], made.below)
        self.spans = {}
        for name, width in own_widths(formula, self.widths).items():
            self.spans[name] = span_of_width(width)
        return str(len(made.outs))

    def ask(self, numbers):
        if self.circuit is None:
            raise NoCircuit("nothing was made")
        if sorted(numbers) != sorted(self.spans):
            raise NoName("the names are not those of the circuit's formula")
        for name, number in numbers.items():
            span = self.spans[name]
            if not span[0] <= number <= span[1]:
                raise OutOfWidth(f"{name} does not stand for {number}")
        bits = told(self.circuit.rows, numbers)
        return str(number_of([bits[out] for out in self.circuit.outs], self.circuit.below))

    def span_text(self, formula):
        span = span_of(formula, own_widths(formula, self.widths))
        return str(span[0]) + " " + str(span[1])
