"""Grammars and expressions: what they are, and what is inside them."""

from graft.errors import Invalid

CHARS = " !\"#$&'()*+,-./0123456789:;<=>?@ABCDEFGHIJKLMNOPQRSTUVWXYZ[\\]^_`abcdefghijklmnopqrstuvwxyz{|}~"

MOST_LETTERS = 12
MOST_SIGNS = 20
MOST_PARTS = 16
MOST_RULES = 16
MOST_DEPTH = 12

# How many items an expression has, by its head.
LENGTHS = {
    "eps": 1,
    "fail": 1,
    "any": 1,
    "set": 2,
    "text": 2,
    "seq": 2,
    "alt": 2,
    "star": 2,
    "opt": 2,
    "not": 2,
    "and": 2,
    "call": 2,
    "mark": 3,
}

# The heads of expressions with many expressions inside, and with exactly one.
LISTING = ("seq", "alt")
WRAPPING = ("star", "opt", "not", "and", "mark")


def is_index(thing):
    """Tell whether a thing of any kind is an integer that is not negative."""
    return isinstance(thing, int) and not isinstance(thing, bool) and thing >= 0


def is_name(thing):
    """Tell whether a thing of any kind is a name."""
    if not isinstance(thing, str):
        return False
    return 1 <= len(thing) <= MOST_LETTERS and all("a" <= sign <= "z" for sign in thing)


def is_char_set(thing):
    """Tell whether a thing of any kind is the string of a set."""
    if not isinstance(thing, str) or len(thing) == 0:
        return False
    if not all(sign in CHARS for sign in thing):
        return False
    return all(thing[k - 1] < thing[k] for k in range(1, len(thing)))


def is_char_text(thing):
    """Tell whether a thing of any kind is the string of a text."""
    if not isinstance(thing, str):
        return False
    return 1 <= len(thing) <= MOST_SIGNS and all(sign in CHARS for sign in thing)


def are_parts(thing, depth):
    """Tell whether a thing of any kind is a tuple of parts that are nested at most this deep."""
    if not isinstance(thing, tuple) or len(thing) > MOST_PARTS:
        return False
    return all(is_expression(part, depth) for part in thing)


def is_expression(thing, depth):
    """Tell whether a thing of any kind is an expression that is nested at most this deep."""
    if depth == 0 or not isinstance(thing, tuple) or len(thing) == 0:
        return False
    head = thing[0]
    if not isinstance(head, str) or LENGTHS.get(head, 0) != len(thing):
        return False
    if head in LISTING:
        return are_parts(thing[1], depth - 1)
    if head == "mark" and not is_name(thing[1]):
        return False
    if head in WRAPPING:
        return is_expression(thing[-1], depth - 1)
    if head == "call":
        return is_name(thing[1])
    if head == "set":
        return is_char_set(thing[1])
    return head != "text" or is_char_text(thing[1])


def is_rule(thing):
    """Tell whether a thing of any kind is a rule."""
    if not isinstance(thing, tuple) or len(thing) != 2:
        return False
    return is_name(thing[0]) and is_expression(thing[1], MOST_DEPTH)


def is_grammar(thing):
    """Tell whether a thing of any kind is a grammar."""
    if not isinstance(thing, tuple) or not 1 <= len(thing) <= MOST_RULES:
        return False
    if not all(is_rule(rule) for rule in thing):
        return False
    return len({rule[0] for rule in thing}) == len(thing)


def checked(thing):
    """Return a grammar as it is, and raise Invalid for anything else."""
    if not is_grammar(thing):
        raise Invalid("grammar")
    return thing


def parts_of(expression):
    """Return the list of the expressions inside an expression."""
    if expression[0] in LISTING:
        return list(expression[1])
    if expression[0] in WRAPPING:
        return [expression[-1]]
    return []


def with_parts(expression, parts):
    """Return an expression with as many other expressions inside, from a list of them."""
    if expression[0] in LISTING:
        return expression[0], tuple(parts)
    if expression[0] in WRAPPING:
        return expression[:-1] + (parts[0],)
    return expression


def calls_of(expression):
    """Return the names that are called anywhere in an expression, in the order of their first calls."""
    if expression[0] == "call":
        return [expression[1]]
    names = []
    for part in parts_of(expression):
        for name in calls_of(part):
            if name not in names:
                names.append(name)
    return names


def expression_size(expression):
    """Return the number of expressions in an expression, itself among them."""
    return 1 + sum(expression_size(part) for part in parts_of(expression))


def size_of(grammar):
    """Return the number of all expressions in all rules."""
    return sum(expression_size(rule[1]) for rule in grammar)
