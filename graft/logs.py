"""Steps, which rewrite a grammar at one place, and logs of steps."""

from graft.errors import BadStep, Refused
from graft.facts import check
from graft.grafts import SHAPES, apply_graft
from graft.terms import calls_of, is_index, parts_of, with_parts

DROP = "drop-rule"
NEW = "new-rule"
MOST_NUMBER = 1000
LETTERS = "abcdefghijklmnopqrstuvwxyz"


def is_number(thing):
    """Tell whether a thing of any kind is an integer that may stand in a step."""
    return is_index(thing) and thing <= MOST_NUMBER


def are_numbers(thing):
    """Tell whether a thing of any kind is a tuple of integers that may stand in a step."""
    return isinstance(thing, tuple) and all(is_number(number) for number in thing)


def is_step(thing):
    """Tell whether a thing of any kind is a step, be it one that applies or not."""
    if not isinstance(thing, tuple) or len(thing) != 4:
        return False
    name, index, path, numbers = thing
    if not isinstance(name, str) or not (name in SHAPES or name in (DROP, NEW)):
        return False
    return is_number(index) and are_numbers(path) and are_numbers(numbers)


def expression_at(expression, path):
    """Return the expression to which a path leads, or None if there is none."""
    found = expression
    for k in path:
        parts = parts_of(found)
        if not is_index(k) or k >= len(parts):
            return None
        found = parts[k]
    return found


def put_at(expression, path, new):
    """Return an expression with a new one at a path, where there is one."""
    if len(path) == 0:
        return new
    parts = parts_of(expression)
    parts[path[0]] = put_at(parts[path[0]], path[1:], new)
    return with_parts(expression, parts)


def with_expression(grammar, index, expression):
    """Return a grammar where the rule with this index has another expression."""
    rule = (grammar[index][0], expression)
    return grammar[:index] + (rule,) + grammar[index + 1:]


def with_graft(grammar, step):
    """Return a grammar after a graft at a place that it has, or None if the graft does not apply."""
    name, index, path, numbers = step
    expression = grammar[index][1]
    changed = apply_graft(name, grammar, expression_at(expression, path), numbers)
    if changed is None:
        return None
    return with_expression(grammar, index, put_at(expression, path, changed))


def without_rule(grammar, index):
    """Return a grammar without a rule, or None if it is the first one or another one calls it."""
    name = grammar[index][0]
    others = grammar[:index] + grammar[index + 1:]
    if index == 0 or any(name in calls_of(rule[1]) for rule in others):
        return None
    return others


def new_name(grammar):
    """Return the first name of two letters that no rule has."""
    names = [rule[0] for rule in grammar]
    pairs = [first + second for first in LETTERS for second in LETTERS]
    return [pair for pair in pairs if pair not in names][0]


def with_rule(grammar, index, path):
    """Return a grammar with a new rule for the expression at a place that it has."""
    name = new_name(grammar)
    expression = grammar[index][1]
    changed = with_expression(grammar, index, put_at(expression, path, ("call", name)))
    return changed + ((name, expression_at(expression, path)),)


def changed_by(grammar, step):
    """Return what a step makes of a grammar, be it a grammar or not, or None if it does not apply."""
    name, index, path, numbers = step
    if index >= len(grammar) or expression_at(grammar[index][1], path) is None:
        return None
    if name in SHAPES:
        return with_graft(grammar, step)
    if len(numbers) > 0:
        return None
    if name == NEW:
        return with_rule(grammar, index, path)
    return without_rule(grammar, index) if len(path) == 0 else None


def stepped(grammar, step):
    """Return the grammar after a step, or None if it is no step or does not apply."""
    changed = changed_by(grammar, step) if is_step(step) else None
    if changed is None:
        return None
    try:
        return check(changed)
    except Refused:
        return None


def replay(grammar, log):
    """Return the grammar that a log makes of a grammar."""
    reached = check(grammar)
    for number, step in enumerate(log):
        reached = stepped(reached, step)
        if reached is None:
            raise BadStep(number)
    return reached
