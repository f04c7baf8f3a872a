"""The grafts: changes of one expression that keep all matches.

Each graft has a function of its own below. It is called with an expression that
has one of the heads of the graft and with the right number of numbers, and
returns None if a condition of the graft is not met.
"""

from graft.facts import ascending, empty_rules, firsts, may_be_empty, never_fails
from graft.terms import MOST_PARTS, MOST_SIGNS, is_index, parts_of

EPS = ("eps",)
FAIL = ("fail",)
LOOKS = ("not", "and")

# The heads of the expressions that a graft changes, and how many numbers it takes.
SHAPES = {
    "seq-flat": (("seq",), 1),
    "alt-flat": (("alt",), 1),
    "lone": (("seq", "alt"), 0),
    "seq-eps": (("seq",), 1),
    "alt-fail": (("alt",), 1),
    "seq-fail": (("seq",), 1),
    "alt-cut": (("alt",), 1),
    "alt-same": (("alt",), 2),
    "alt-swap": (("alt",), 1),
    "set-join": (("alt",), 1),
    "text-join": (("seq",), 1),
    "text-split": (("text",), 1),
    "text-set": (("text", "set"), 0),
    "opt-alt": (("opt", "alt"), 0),
    "look-look": (("not", "and"), 0),
    "opt-star": (("opt",), 0),
    "star-step": (("star",), 0),
    "factor": (("alt",), 1),
    "spread": (("seq",), 0),
    "look-same": (("seq",), 1),
    "inline": (("call",), 0),
}


def has_part(expression, k, head):
    """Tell whether a seq or an alt has a part k with this head."""
    parts = expression[1]
    return k < len(parts) and parts[k][0] == head


def exchanged(expression, k, many, parts):
    """Return a seq or an alt where a tuple of parts takes the place of this many parts from part k on."""
    head, old = expression
    return head, old[:k] + parts + old[k + many:]


def left_out(expression, k):
    """Return a seq or an alt without its part k."""
    return exchanged(expression, k, 1, ())


def flattened(grammar, expression, numbers):
    """Do seq-flat or alt-flat."""
    k = numbers[0]
    if not has_part(expression, k, expression[0]):
        return None
    return exchanged(expression, k, 1, expression[1][k][1])


def lone(grammar, expression, numbers):
    """Do lone."""
    head, parts = expression
    if len(parts) == 1:
        return parts[0]
    if len(parts) > 1:
        return None
    return EPS if head == "seq" else FAIL


def seq_eps(grammar, expression, numbers):
    """Do seq-eps."""
    k = numbers[0]
    return left_out(expression, k) if has_part(expression, k, "eps") else None


def alt_fail(grammar, expression, numbers):
    """Do alt-fail."""
    k = numbers[0]
    return left_out(expression, k) if has_part(expression, k, "fail") else None


def seq_fail(grammar, expression, numbers):
    """Do seq-fail."""
    return FAIL if has_part(expression, numbers[0], "fail") else None


def alt_cut(grammar, expression, numbers):
    """Do alt-cut."""
    head, parts = expression
    end = numbers[0] + 1
    if end >= len(parts) or not never_fails(parts[end - 1]):
        return None
    return head, parts[:end]


def alt_same(grammar, expression, numbers):
    """Do alt-same."""
    parts = expression[1]
    i, j = numbers
    if not i < j < len(parts) or parts[i] != parts[j]:
        return None
    return left_out(expression, j)


def alt_swap(grammar, expression, numbers):
    """Do alt-swap."""
    k = numbers[0]
    pair = expression[1][k:k + 2]
    if len(pair) < 2:
        return None
    empties = empty_rules(grammar)
    if may_be_empty(pair[0], empties) or may_be_empty(pair[1], empties):
        return None
    signs = firsts(grammar, pair[1])
    if any(sign in signs for sign in firsts(grammar, pair[0])):
        return None
    return exchanged(expression, k, 2, (pair[1], pair[0]))


def set_join(grammar, expression, numbers):
    """Do set-join."""
    k = numbers[0]
    if not has_part(expression, k, "set") or not has_part(expression, k + 1, "set"):
        return None
    signs = ascending(expression[1][k][1] + expression[1][k + 1][1])
    return exchanged(expression, k, 2, (("set", signs),))


def text_join(grammar, expression, numbers):
    """Do text-join."""
    k = numbers[0]
    if not has_part(expression, k, "text") or not has_part(expression, k + 1, "text"):
        return None
    signs = expression[1][k][1] + expression[1][k + 1][1]
    return exchanged(expression, k, 2, (("text", signs),)) if len(signs) <= MOST_SIGNS else None


def text_split(grammar, expression, numbers):
    """Do text-split."""
    n = numbers[0]
    signs = expression[1]
    if not 1 <= n < len(signs):
        return None
    return "seq", (("text", signs[:n]), ("text", signs[n:]))


def text_set(grammar, expression, numbers):
    """Do text-set."""
    head, signs = expression
    if len(signs) != 1:
        return None
    return "set" if head == "text" else "text", signs


def opt_alt(grammar, expression, numbers):
    """Do opt-alt."""
    head, inside = expression
    if head == "opt":
        return "alt", (inside, EPS)
    if len(inside) != 2 or inside[1] != EPS:
        return None
    return "opt", inside[0]


def look_look(grammar, expression, numbers):
    """Do look-look."""
    head, look = expression
    if look[0] not in LOOKS:
        return None
    return "and" if look[0] == head else "not", look[1]


def opt_star(grammar, expression, numbers):
    """Do opt-star."""
    return expression[1] if never_fails(expression[1]) else None


def star_step(grammar, expression, numbers):
    """Do star-step."""
    return "opt", ("seq", (expression[1], expression))


def factor(grammar, expression, numbers):
    """Do factor."""
    k = numbers[0]
    if not has_part(expression, k, "seq") or not has_part(expression, k + 1, "seq"):
        return None
    left = expression[1][k][1]
    right = expression[1][k + 1][1]
    if len(left) == 0 or left[:1] != right[:1]:
        return None
    rest = ("alt", (("seq", left[1:]), ("seq", right[1:])))
    return exchanged(expression, k, 2, (("seq", (left[0], rest)),))


def spread(grammar, expression, numbers):
    """Do spread."""
    parts = expression[1]
    if len(parts) == 0 or parts[-1][0] != "alt":
        return None
    return "alt", tuple([("seq", parts[:-1] + (part,)) for part in parts[-1][1]])


def look_same(grammar, expression, numbers):
    """Do look-same."""
    k = numbers[0]
    parts = expression[1]
    if k + 1 >= len(parts) or parts[k] != ("and", parts[k + 1]):
        return None
    return left_out(expression, k)


def inline(grammar, expression, numbers):
    """Do inline."""
    for name, found in grammar:
        if name == expression[1]:
            return found
    return expression


CHANGES = {
    "seq-flat": flattened,
    "alt-flat": flattened,
    "lone": lone,
    "seq-eps": seq_eps,
    "alt-fail": alt_fail,
    "seq-fail": seq_fail,
    "alt-cut": alt_cut,
    "alt-same": alt_same,
    "alt-swap": alt_swap,
    "set-join": set_join,
    "text-join": text_join,
    "text-split": text_split,
    "text-set": text_set,
    "opt-alt": opt_alt,
    "look-look": look_look,
    "opt-star": opt_star,
    "star-step": star_step,
    "factor": factor,
    "spread": spread,
    "look-same": look_same,
    "inline": inline,
}


def is_narrow(expression):
    """Tell whether no seq and no alt in an expression has too many parts."""
    parts = parts_of(expression)
    return len(parts) <= MOST_PARTS and all(is_narrow(part) for part in parts)


def apply_graft(name, grammar, expression, numbers):
    """Return what a graft makes of an expression of the grammar, or None if it does not apply."""
    heads, many = SHAPES[name]
    if expression[0] not in heads or len(numbers) != many:
        return None
    if not all(is_index(number) for number in numbers):
        return None
    change = CHANGES[name]
    changed = change(grammar, expression, numbers)
    if changed is None or not is_narrow(changed):
        return None
    return changed
