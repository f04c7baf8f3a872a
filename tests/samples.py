"""Expressions, grammars and a plain matcher that several tests use."""

EPS = ("eps",)
FAIL = ("fail",)
ANY = ("any",)


def text(s):
    return ("text", s)


def chars(s):
    return ("set", s)


def seq(*parts):
    return ("seq", parts)


def alt(*parts):
    return ("alt", parts)


def star(e):
    return ("star", e)


def opt(e):
    return ("opt", e)


def no(e):
    return ("not", e)


def look(e):
    return ("and", e)


def call(name):
    return ("call", name)


def mark(label, e):
    return ("mark", label, e)


def one(e):
    """A grammar of one rule."""
    return (("a", e),)


def nested(depth):
    """An expression of this depth."""
    e = EPS
    for _ in range(depth - 1):
        e = ("opt", e)
    return e


def plain_run(grammar, subject, at):
    """What `run` has to return, written from the table of point 2 with recursion."""
    rules = dict(grammar)
    known = {}
    entered = []

    def go(e, at):
        head = e[0]
        if head == "eps":
            return at, ()
        if head == "fail":
            return None
        if head == "any":
            return (at + 1, ()) if at < len(subject) else None
        if head == "set":
            return (at + 1, ()) if at < len(subject) and subject[at] in e[1] else None
        if head == "text":
            return (at + len(e[1]), ()) if subject.startswith(e[1], at) else None
        if head == "seq":
            trees = ()
            for part in e[1]:
                got = go(part, at)
                if got is None:
                    return None
                at, trees = got[0], trees + got[1]
            return at, trees
        if head == "alt":
            for part in e[1]:
                got = go(part, at)
                if got is not None:
                    return got
            return None
        if head == "star":
            trees = ()
            while True:
                got = go(e[1], at)
                if got is None:
                    return at, trees
                at, trees = got[0], trees + got[1]
        if head == "opt":
            return go(e[1], at) or (at, ())
        if head == "not":
            return (at, ()) if go(e[1], at) is None else None
        if head == "and":
            return None if go(e[1], at) is None else (at, ())
        if head == "call":
            if (e[1], at) not in known:
                entered.append((e[1], at))
                known[e[1], at] = go(rules[e[1]], at)
            return known[e[1], at]
        got = go(e[2], at)
        return None if got is None else (got[0], ((e[1], at, got[0], got[1]),))

    return go(("call", grammar[0][0]), at), entered


def small_expressions():
    """Many expressions that call b or c, of depth 1 to 3."""
    leaves = [EPS, FAIL, ANY, chars("x"), chars("xy"), text("y"), text("xy"), call("b"), call("c"), seq(), alt()]
    second = []
    for e in leaves:
        second += [star(e), opt(e), no(e), look(e), mark("m", e), seq(e), alt(e)]
        for f in leaves:
            second += [seq(e, f), alt(e, f)]
    third = []
    for e in second[::8]:
        third += [star(e), opt(e), no(e), look(e), mark("n", e)]
        for f in (ANY, text("x"), mark("l", call("c")), star(text("y"))):
            third += [seq(e, f), alt(e, f), seq(f, e), alt(f, e)]
    return leaves + second + third


def small_grammars():
    """Many grammars of three rules; a match might not end in some of them."""
    rests = (
        (("b", mark("k", chars("xy"))), ("c", alt(seq(text("x"), call("c")), EPS))),
        (("b", opt(call("c"))), ("c", seq(no(text("xx")), mark("k", ANY)))),
        (("b", seq(call("c"), text("y"))), ("c", alt(mark("k", text("x")), seq(text("y"), call("a"))))),
    )
    for e in small_expressions():
        for rest in rests:
            yield (("a", e),) + rest


def small_texts():
    return ["", "x", "y", "xy", "xx", "yx", "xyx", "xxy", "yyx", "xxxy", "zx"]
