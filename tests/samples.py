"""Expressions, grammars, steps and a plain matcher that several tests use."""

import itertools
import random

from graft.errors import Refused
from graft.facts import check

EPS = ("eps",)
FAIL = ("fail",)
ANY = ("any",)


def text(s):
    return ("text", s)


def chars(s):
    return ("set", s)


def seq(*parts):
    return ("seq", parts)


def alt(*parts):
    return ("alt", parts)


def star(e):
    return ("star", e)


def opt(e):
    return ("opt", e)


def no(e):
    return ("not", e)


def look(e):
    return ("and", e)


def call(name):
    return ("call", name)


def mark(label, e):
    return ("mark", label, e)


def one(e):
    """A grammar of one rule."""
    return (("a", e),)


def nested(depth):
    """An expression of this depth."""
    e = EPS
    for _ in range(depth - 1):
        e = ("opt", e)
    return e


def ends(grammar):
    """Whether check lets a grammar pass."""
    try:
        check(grammar)
    except Refused:
        return False
    return True


def plain_run(grammar, subject, at):
    """What `run` has to return, written from the table of point 2 with recursion."""
    rules = dict(grammar)
    known = {}
    entered = []

    def go(e, at):
        head = e[0]
        if head == "eps":
            return at, ()
        if head == "fail":
            return None
        if head == "any":
            return (at + 1, ()) if at < len(subject) else None
        if head == "set":
            return (at + 1, ()) if at < len(subject) and subject[at] in e[1] else None
        if head == "text":
            return (at + len(e[1]), ()) if subject.startswith(e[1], at) else None
        if head == "seq":
            trees = ()
            for part in e[1]:
                got = go(part, at)
                if got is None:
                    return None
                at, trees = got[0], trees + got[1]
            return at, trees
        if head == "alt":
            for part in e[1]:
                got = go(part, at)
                if got is not None:
                    return got
            return None
        if head == "star":
            trees = ()
            while True:
                got = go(e[1], at)
                if got is None:
                    return at, trees
                at, trees = got[0], trees + got[1]
        if head == "opt":
            return go(e[1], at) or (at, ())
        if head == "not":
            return (at, ()) if go(e[1], at) is None else None
        if head == "and":
            return None if go(e[1], at) is None else (at, ())
        if head == "call":
            if (e[1], at) not in known:
                entered.append((e[1], at))
                known[e[1], at] = go(rules[e[1]], at)
            return known[e[1], at]
        got = go(e[2], at)
        return None if got is None else (got[0], ((e[1], at, got[0], got[1]),))

    return go(("call", grammar[0][0]), at), entered


def small_expressions():
    """Many expressions that call b or c, of depth 1 to 3."""
    leaves = [EPS, FAIL, ANY, chars("x"), chars("xy"), text("y"), text("xy"), call("b"), call("c"), seq(), alt()]
    second = []
    for e in leaves:
        second += [star(e), opt(e), no(e), look(e), mark("m", e), seq(e), alt(e)]
        for f in leaves:
            second += [seq(e, f), alt(e, f)]
    third = []
    for e in second[::8]:
        third += [star(e), opt(e), no(e), look(e), mark("n", e)]
        for f in (ANY, text("x"), mark("l", call("c")), star(text("y"))):
            third += [seq(e, f), alt(e, f), seq(f, e), alt(f, e)]
    return leaves + second + third


def small_grammars():
    """Many grammars of three rules; a match might not end in some of them."""
    rests = (
        (("b", mark("k", chars("xy"))), ("c", alt(seq(text("x"), call("c")), EPS))),
        (("b", opt(call("c"))), ("c", seq(no(text("xx")), mark("k", ANY)))),
        (("b", seq(call("c"), text("y"))), ("c", alt(mark("k", text("x")), seq(text("y"), call("a"))))),
    )
    for e in small_expressions():
        for rest in rests:
            yield (("a", e),) + rest


def small_texts():
    return ["", "x", "y", "xy", "xx", "yx", "xyx", "xxy", "yyx", "xxxy", "zx"]


def all_paths(e, path=()):
    """The paths to all expressions in an expression, itself among them."""
    yield path
    if e[0] in ("seq", "alt"):
        inside = e[1]
    elif e[0] in ("star", "opt", "not", "and", "mark"):
        inside = e[-1:]
    else:
        inside = ()
    for k, part in enumerate(inside):
        yield from all_paths(part, path + (k,))


# The numbers of each graft: how many there are.
MANY = {"seq-flat": 1, "alt-flat": 1, "lone": 0, "seq-eps": 1, "alt-fail": 1, "seq-fail": 1, "alt-cut": 1,
        "alt-same": 2, "alt-swap": 1, "set-join": 1, "text-join": 1, "text-split": 1, "text-set": 0, "opt-alt": 0,
        "look-look": 0, "opt-star": 0, "star-step": 0, "factor": 1, "spread": 0, "look-same": 1, "inline": 0}
PASS = ("seq-flat", "alt-flat", "lone", "seq-eps", "alt-fail", "seq-fail", "alt-cut", "alt-same", "set-join",
        "text-join", "look-look", "opt-star", "look-same", "drop-rule")


def all_steps(grammar, names, most=17):
    """All steps with these names at all places of a grammar, with numbers below a limit."""
    for index, (_, e) in enumerate(grammar):
        for name in names:
            if name == "drop-rule":
                yield name, index, (), ()
                continue
            for path in all_paths(e):
                for numbers in itertools.product(range(most), repeat=MANY.get(name, 0)):
                    yield name, index, path, numbers


def any_expression(chance, depth):
    """An expression that grafts often apply to, at most this deep; `chance` is a random.Random."""
    if depth <= 1 or chance.random() < 0.15:
        return chance.choice((EPS, EPS, FAIL, FAIL, ANY, chars("x"), chars("xy"), chars("yz"), text("x"), text("y"),
                              text("xy"), text("zx"), call("a"), call("b"), call("b"), call("c"), seq(), alt()))
    kind = chance.choice(("seq", "seq", "seq", "alt", "alt", "alt", "star", "opt", "opt", "not", "and", "mark"))
    if kind == "mark":
        return mark(chance.choice("mn"), any_expression(chance, depth - 1))
    if kind not in ("seq", "alt"):
        return kind, any_expression(chance, depth - 1)
    parts = []
    for _ in range(chance.randrange(4)):
        e = any_expression(chance, depth - 1)
        luck = chance.random()
        if luck < 0.15 and depth > 2:
            parts += [look(e), e]
        elif luck < 0.3 and depth > 2:
            parts += [seq(e, any_expression(chance, depth - 2)), seq(e)]
        elif luck < 0.4:
            parts += [e, e]
        else:
            parts.append(e)
    return kind, tuple(parts)


def any_grammars(seed, many, depth):
    """As many grammars of three rules in which every match ends, the same ones for the same seed."""
    chance = random.Random(seed)
    found = 0
    while found < many:
        grammar = tuple((name, any_expression(chance, depth)) for name in "abc")
        if ends(grammar):
            found += 1
            yield grammar


def matches_of(grammar):
    """What a grammar in which every match ends matches in many small texts at all places."""
    return [plain_run(grammar, subject, at)[0] for subject in small_texts() + ["zy", "yz", "xyzx"]
            for at in range(len(subject) + 1)]
