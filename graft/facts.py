"""What is known of grammars without matching any text."""

from graft.errors import Looping, Unknown
from graft.terms import CHARS, calls_of, checked, parts_of

ALWAYS_EMPTY = ("eps", "star", "opt", "not", "and")
NEVER_FAILING = ("eps", "star", "opt")


def may_be_empty(expression, names):
    """Tell whether an expression may be empty if exactly the rules with these names may be."""
    head = expression[0]
    if head in ALWAYS_EMPTY:
        return True
    if head == "call":
        return expression[1] in names
    if head == "seq":
        return all(may_be_empty(part, names) for part in expression[1])
    if head == "alt":
        return any(may_be_empty(part, names) for part in expression[1])
    return head == "mark" and may_be_empty(expression[2], names)


def empty_rules(grammar):
    """Return the names of the empty rules, in the order of the rules."""
    names = []
    grown = True
    while grown:
        wider = [name for name, expression in grammar if may_be_empty(expression, names)]
        grown = wider != names
        names = wider
    return names


def leading_parts(expression, empties):
    """Return the expressions inside with which a match may begin; of a seq, those that may stand first."""
    parts = parts_of(expression)
    if expression[0] != "seq":
        return parts
    for k, part in enumerate(parts):
        if not may_be_empty(part, empties):
            return parts[:k + 1]
    return parts


def first_calls(expression, empties):
    """Return the names of the first calls of an expression; a name may occur several times."""
    if expression[0] == "call":
        return [expression[1]]
    names = []
    for part in leading_parts(expression, empties):
        names.extend(first_calls(part, empties))
    return names


def has_endless_star(expression, empties):
    """Tell whether a star in an expression, at any depth, has an expression that may be empty."""
    if expression[0] == "star" and may_be_empty(expression[1], empties):
        return True
    return any(has_endless_star(part, empties) for part in parts_of(expression))


def reaches_itself(name, callees):
    """Tell whether a rule is reached from itself by one or more of the calls in a dict of lists."""
    seen = set()
    rest = list(callees[name])
    while rest:
        called = rest.pop()
        if called == name:
            return True
        if called not in seen:
            seen.add(called)
            rest.extend(callees[called])
    return False


def refuse_unknown(grammar):
    """Raise Unknown for the first called name that no rule has."""
    known = [name for name, expression in grammar]
    for _, expression in grammar:
        for called in calls_of(expression):
            if called not in known:
                raise Unknown(called)


def refuse_looping(grammar):
    """Raise Looping for the first rule that might not end; no call in the grammar is of an unknown rule."""
    empties = empty_rules(grammar)
    callees = {name: first_calls(expression, empties) for name, expression in grammar}
    for name, expression in grammar:
        if reaches_itself(name, callees) or has_endless_star(expression, empties):
            raise Looping(name)


def check(grammar):
    """Return a grammar in which every match ends, and raise Invalid, Unknown or Looping for any other one."""
    checked(grammar)
    refuse_unknown(grammar)
    refuse_looping(grammar)
    return grammar


def ascending(signs):
    """Return the ascending string of the characters in a string, each once."""
    return "".join(sorted(set(signs)))


def starts_of(expression, starts, empties):
    """Return the first characters of an expression, where a dict tells those of the rules."""
    head = expression[0]
    if head == "any":
        return CHARS
    if head == "set":
        return expression[1]
    if head == "text":
        return expression[1][:1]
    if head == "call":
        return starts.get(expression[1], "")
    if head in ("not", "and"):
        return ""
    found = [starts_of(part, starts, empties) for part in leading_parts(expression, empties)]
    return ascending("".join(found))


def rule_starts(grammar, empties):
    """Return a dict of the first characters of each rule: the least ones that fit."""
    starts = {name: "" for name, expression in grammar}
    grown = True
    while grown:
        wider = {name: starts_of(expression, starts, empties) for name, expression in grammar}
        grown = wider != starts
        starts = wider
    return starts


def firsts(grammar, expression):
    """Return the ascending string of the first characters of an expression that calls rules of the grammar."""
    empties = empty_rules(grammar)
    starts = rule_starts(grammar, empties)
    return ascending(starts_of(expression, starts, empties))


def never_fails(expression):
    """Tell whether an expression never fails, without looking at what calls lead to."""
    head = expression[0]
    if head in NEVER_FAILING:
        return True
    if head == "seq":
        return all(never_fails(part) for part in expression[1])
    if head == "alt":
        return any(never_fails(part) for part in expression[1])
    if head in ("mark", "and"):
        return never_fails(expression[-1])
    return head == "not" and expression[1] == ("fail",)
