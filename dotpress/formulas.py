"""Formulas: their parts, their worth, and the span in which it lies."""

from dotpress.errors import NoName
from dotpress.words import span_of_width


def worth(formula, words):
    return built_up(formula, lambda part, own: worth_of_part(part, own, words))


def worth_of_part(part, own, words):
    kind = part[0]
    if kind == "name":
        return words[part[1]]
    if kind == "number":
        return part[1]
    if kind == "turned":
        return -own[0]
    if kind == "plus":
        return own[0] + own[1]
    if kind == "less":
        return own[0] - own[1]
    return own[0] * own[1]


def span_of(formula, widths):
    return built_up(formula, lambda part, own: span_of_part(part, own, widths))


def span_of_part(part, own, widths):
    kind = part[0]
    if kind == "name":
        return span_of_width(widths[part[1]])
    if kind == "number":
        return (part[1], part[1])
    if kind == "turned":
        return (-own[0][1], -own[0][0])
    if kind == "plus":
        return (own[0][0] + own[1][0], own[0][1] + own[1][1])
    if kind == "less":
        return (own[0][0] - own[1][1], own[0][1] - own[1][0])
    return span_of_product(own[0], own[1])


def span_of_product(first, second):
    products = [end * second[0] for end in first] + [end * second[1] for end in first]
    return (min(products), max(products))


# The widths of the names that the formula has, and of no others.
def own_widths(formula, widths):
    own = {}
    for name in [part[1] for part in parts_first(formula) if part[0] == "name"]:
        if name not in widths:
            raise NoName(f"the name {name} has no width")
        own[name] = widths[name]
    return own


# What is told of a formula by what is told of its parts: answer_of is called with each part and the list of the
# answers of this part's own parts.
def built_up(formula, answer_of):
    answers = []
    for part in parts_first(formula):
        kept = len(answers) - len(parts_of(part))
        answers = answers[:kept] + [answer_of(part, answers[kept:])]
    return answers[0]


# A formula and all its parts, each behind its own parts. The ones that wait are kept in a list, not in calls within
# calls, so it does not matter how deep the parts lie within one another.
def parts_first(formula):
    waiting = [formula]
    parts = []
    while len(waiting) > 0:
        part = waiting.pop()
        parts.append(part)
        waiting.extend(parts_of(part))
    parts.reverse()
    return parts


def parts_of(formula):
    if formula[0] in ("name", "number"):
        return []
    return list(formula[1:])
