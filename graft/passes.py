"""The pass: it makes a grammar smaller with grafts as long as one of them applies.

Each of these grafts leaves fewer expressions, or as many and fewer seqs and alts
without parts, so the pass ends. None of them makes an expression deeper, calls
more, or lets more expressions be empty, so what they make of a grammar that was
checked need not be checked again.
"""

from graft.facts import check
from graft.grafts import SHAPES, apply_graft
from graft.logs import DROP, with_expression, without_rule
from graft.terms import parts_of, with_parts

# All grafts of the pass but drop-rule, which is no change of an expression.
PASS = (
    "seq-flat",
    "alt-flat",
    "lone",
    "seq-eps",
    "alt-fail",
    "seq-fail",
    "alt-cut",
    "alt-same",
    "set-join",
    "text-join",
    "look-look",
    "opt-star",
    "look-same",
)


def choices_of(name, expression):
    """Return the list of all numbers with which a graft of the pass may apply to an expression."""
    heads, many = SHAPES[name]
    if expression[0] not in heads:
        return []
    places = range(len(parts_of(expression)))
    if many == 0:
        return [()]
    if many == 1:
        return [(k,) for k in places]
    return [(i, j) for i in places for j in places if i < j]


def first_change(grammar, expression):
    """Return a graft of the pass that applies to an expression, its numbers and what it makes, or None."""
    for name in PASS:
        for numbers in choices_of(name, expression):
            changed = apply_graft(name, grammar, expression, numbers)
            if changed is not None:
                return name, numbers, changed
    return None


def settled(grammar, index, path, expression):
    """Return what the pass makes of the expression at a path of a rule, and the list of its steps.

    The expressions inside come first: a graft further out moves them or leaves
    them out, but makes none to which another graft would apply.
    """
    parts = []
    steps = []
    for k, part in enumerate(parts_of(expression)):
        reached, more = settled(grammar, index, path + (k,), part)
        parts.append(reached)
        steps.extend(more)
    reached = with_parts(expression, parts)
    change = first_change(grammar, reached)
    while change is not None:
        name, numbers, reached = change
        steps.append((name, index, path, numbers))
        change = first_change(grammar, reached)
    return reached, steps


def rules_dropped(grammar):
    """Return a grammar from which no rule can be dropped any more, and the list of the steps to it."""
    reached = grammar
    steps = []
    index = 1
    while index < len(reached):
        fewer = without_rule(reached, index)
        if fewer is None:
            index += 1
        else:
            reached = fewer
            steps.append((DROP, index, (), ()))
            # An earlier rule may have been called by the one that is gone.
            index = 1
    return reached, steps


def improved(grammar):
    """Return a grammar to which no step with a graft of the pass applies, and a log that leads to it."""
    reached = check(grammar)
    log = []
    for index, rule in enumerate(grammar):
        expression, steps = settled(grammar, index, (), rule[1])
        reached = with_expression(reached, index, expression)
        log.extend(steps)
    reached, steps = rules_dropped(reached)
    return reached, log + steps
