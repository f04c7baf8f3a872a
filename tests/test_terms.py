"""Grammars and expressions: points 2, 3 and 5, and graft/terms.py."""

import unittest

from graft.errors import Invalid, Refused
from graft.terms import CHARS, calls_of, checked, is_grammar, parts_of, size_of
from samples import (ANY, EPS, FAIL, alt, call, chars, look, mark, nested, no, one, opt, seq, star, text)

EACH_KIND = (EPS, FAIL, ANY, chars("az"), text("xy"), seq(EPS, ANY), alt(ANY, EPS), star(ANY), opt(ANY), no(ANY),
             look(ANY), call("b"), mark("m", ANY))


class Text(str):
    """A string of a class below str is a string."""


def wrong_expressions():
    """Things that are no expression, by what is wrong with them."""
    deep = EPS
    for _ in range(100000):
        deep = ("opt", deep)
    wide = EPS
    for _ in range(1000):
        wide = ("seq", (wide, wide))
    return {
        "head": [("epsilon",), ("", "a"), ("Eps",), ("SEQ", ()), ("drop", EPS), (EPS,), (0,), (None,), (True,),
                 (b"eps",), (["eps"],), ({},), ((),), ("seq ", ())],
        "length": [(), ("eps", ()), ("eps", EPS), ("fail", EPS), ("any", "a"), ("set",), ("set", "a", "b"), ("text",),
                   ("text", "a", "b"), ("seq",), ("seq", EPS, EPS), ("seq", (EPS,), (EPS,)), ("alt",),
                   ("alt", (EPS,), ()), ("star",), ("star", EPS, EPS), ("opt",), ("opt", EPS, EPS), ("not",),
                   ("not", EPS, EPS), ("and",), ("and", EPS, EPS), ("call",), ("call", "a", "b"), ("call", "a", EPS),
                   ("mark",), ("mark", "a"), ("mark", EPS), ("mark", "a", EPS, EPS)],
        "set": [("set", ""), ("set", "ba"), ("set", "aa"), ("set", "aba"), ("set", "abb"), ("set", "%"), ("set", "$%&"),
                ("set", "\n"), ("set", "\x1f"), ("set", "\x7f"), ("set", "~\x7f"), ("set", "a\xe9"), ("set", b"a"),
                ("set", ("a", "b")), ("set", ["a"]), ("set", None), ("set", 1), ("set", True), ("set", EPS)],
        "text": [("text", ""), ("text", "a" * 21), ("text", "a" * 100000), ("text", "%"), ("text", "ab%"),
                 ("text", "a\n"), ("text", "\t"), ("text", "\x1f"), ("text", "\x7f"), ("text", "\xe9"), ("text", b"a"),
                 ("text", ("a",)), ("text", ["a"]), ("text", None), ("text", 7), ("text", False), ("text", EPS)],
        "parts": [("seq", (EPS,) * 17), ("alt", (EPS,) * 17), ("seq", EPS), ("seq", [EPS]), ("alt", [EPS]), ("seq", []),
                  ("alt", []), ("seq", "eps"), ("seq", ""), ("alt", ""), ("seq", None), ("alt", 0), ("seq", True),
                  ("seq", {}), ("seq", (EPS, [])), ("seq", (EPS, ["eps"])), ("alt", (EPS, None)), ("alt", (1,)),
                  ("seq", ("eps",)), ("alt", (b"eps",)), ("alt", (EPS, ()))],
        "inside": [(head, bad) for head in ("star", "opt", "not", "and")
                   for bad in ("eps", ["eps"], None, 1, True, b"eps", (), (EPS,), ("text", ""), "")],
        "call": [("call", bad) for bad in ("", "A", "a1", "a b", "a-b", "a_", "abcdefghijklm", "\xe9", "\u0430", "a\n",
                                           "%", None, 1, True, b"a", ("a",), ["a"], EPS)],
        "mark": [("mark", bad, EPS) for bad in ("", "B", "b2", "abcdefghijklm", "\xe9", None, 0, False, b"b", EPS, [])]
                + [("mark", "b", bad) for bad in ("eps", ["eps"], None, 1, b"", (), ("call", ""))],
        "depth": [nested(13), nested(40), deep, wide, seq(nested(12)), alt(EPS, nested(12)), mark("m", nested(12)),
                  no(nested(12)), look(nested(12)), star(nested(12))],
        "other": [None, True, False, 0, 1, "eps", b"eps", "", ["eps"], {}, {"eps"}, object(), 1.5, ()],
    }


class CharsTest(unittest.TestCase):
    def test_all_from_space_to_tilde_but_the_percent_sign(self):
        self.assertEqual(CHARS, "".join(chr(k) for k in range(32, 127) if k != 37))


class GrammarsTest(unittest.TestCase):
    def accept(self, thing):
        self.assertIs(is_grammar(thing), True, repr(thing)[:200])
        self.assertIs(checked(thing), thing)

    def refuse(self, thing):
        self.assertIs(is_grammar(thing), False)
        with self.assertRaises(Invalid) as caught:
            checked(thing)
        self.assertEqual(caught.exception.name, "grammar")
        self.assertIsInstance(caught.exception, Refused)

    def test_each_kind_of_expression(self):
        for e in EACH_KIND:
            self.accept(one(e))
            self.accept(one(seq(ANY, e)))
            self.accept((("b", EPS), ("a", mark("m", alt(e, star(e))))))

    def test_calls_of_unknown_rules_are_allowed(self):
        self.accept(one(call("nowhere")))
        self.accept(one(seq(call("a"), call("zzzzzzzzzzzz"))))

    def test_names_at_their_edges(self):
        for name in ("a", "z", "abcdefghijkl", "m" * 12):
            self.accept(((name, EPS),))
            self.accept(one(call(name)))
            self.accept(one(mark(name, EPS)))

    def test_names_beyond(self):
        wrong = ("", "m" * 13, "A", "aB", "a1", "1", "a b", " a", "a ", "a_", "-", "`", "{", "\xe4", "\u03b1", "a\n")
        for name in wrong + (None, 1, True, b"a", ("a",), ["a"], EPS):
            self.refuse(((name, EPS),))
            self.refuse(one(call(name)))
            self.refuse(one(mark(name, EPS)))

    def test_sets_at_their_edges(self):
        for s in (" ", "~", "a", "$&", "ab", " ~", "AZaz", CHARS):
            self.accept(one(chars(s)))

    def test_each_character_in_sets_and_texts(self):
        for k in range(200):
            if 32 <= k <= 126 and k != 37:
                self.accept(one(chars(chr(k))))
                self.accept(one(text(chr(k))))
            else:
                self.refuse(one(chars(chr(k))))
                self.refuse(one(text(chr(k))))

    def test_texts_at_their_edges(self):
        for s in ("a", " ", "ba", "aa", "x" * 20, CHARS[:20], CHARS[-20:]):
            self.accept(one(text(s)))

    def test_parts_at_their_edges(self):
        for many in (0, 1, 15, 16):
            self.accept(one(("seq", (EPS,) * many)))
            self.accept(one(("alt", (ANY,) * many)))

    def test_depth_at_its_edge(self):
        for depth in (1, 2, 11, 12):
            self.accept(one(nested(depth)))
        for e in (star, opt, no, look, seq, alt):
            self.accept(one(e(nested(11))))
            self.refuse(one(e(nested(12))))
        self.accept(one(mark("m", nested(11))))
        self.accept(one(alt(EPS, ANY, nested(11), EPS)))
        self.accept((("a", nested(12)), ("b", nested(12))))
        self.refuse((("a", EPS), ("b", nested(13))))

    def test_parts_of_depth_twelve_count_from_one(self):
        e = seq()
        for _ in range(11):
            e = alt(ANY, e)
        self.accept(one(e))
        self.refuse(one(alt(e)))

    def test_rules_at_their_edges(self):
        names = "abcdefghijklmnopq"
        self.accept(tuple((name, EPS) for name in names[:1]))
        self.accept(tuple((name, EPS) for name in names[:16]))
        self.refuse(tuple((name, EPS) for name in names[:17]))
        self.refuse(())

    def test_names_of_rules_differ(self):
        self.refuse((("a", EPS), ("a", ANY)))
        self.refuse((("a", EPS), ("b", ANY), ("a", EPS)))
        self.accept((("a", EPS), ("b", EPS)))
        self.accept((("a", EPS), ("aa", EPS)))

    def test_rules_of_other_kinds(self):
        rules = ((), ("a",), ("a", EPS, EPS), (EPS, "a"), ["a", EPS], "ab", None, 1, True, b"ab", {"a": EPS},
                 ("a", "eps"), ("a", ["eps"]), ("a", None), (("a",), EPS))
        for rule in rules:
            self.refuse((rule,))
            self.refuse((("b", EPS), rule))
            self.refuse((rule, ("b", EPS)))

    def test_wrong_expressions_at_each_place(self):
        for what, things in wrong_expressions().items():
            for thing in things:
                with self.subTest(what):
                    self.refuse(one(thing))
                    self.refuse((("b", ANY), ("a", thing)))
                    self.refuse(one(seq(ANY, thing)))
                    self.refuse(one(alt(thing, ANY)))
                    self.refuse(one(mark("m", opt(thing))))

    def test_things_of_other_kinds(self):
        for thing in (None, True, False, 0, 1, -1, 2.5, "", "a", b"", b"a", [], {}, set(), object(), EPS, ("a", EPS),
                      [("a", EPS)], {"a": EPS}, "a = eps;", is_grammar, str):
            self.refuse(thing)

    def test_tuples_nested_far_deeper(self):
        thing = ()
        for _ in range(100000):
            thing = (thing,)
        self.refuse(thing)
        self.refuse(one(thing))
        self.refuse((("a", thing), thing))

    def test_a_string_of_another_class_is_a_string(self):
        self.accept(((Text("a"), ("text", Text("x"))),))


class InsideTest(unittest.TestCase):
    def test_parts_of(self):
        e, f = text("x"), call("b")
        for plain in (EPS, FAIL, ANY, chars("a"), text("seq"), call("star")):
            self.assertEqual(parts_of(plain), [])
        for many in (seq, alt):
            self.assertEqual(parts_of(many()), [])
            self.assertEqual(parts_of(many(e)), [e])
            self.assertEqual(parts_of(many(e, f, e)), [e, f, e])
        for around in (star, opt, no, look):
            self.assertEqual(parts_of(around(e)), [e])
        self.assertEqual(parts_of(mark("m", f)), [f])
        self.assertEqual(parts_of(mark("m", seq(e, f))), [seq(e, f)])

    def test_parts_of_returns_new_lists(self):
        e = seq(EPS, ANY)
        parts_of(e).append(FAIL)
        self.assertEqual(parts_of(e), [EPS, ANY])
        self.assertEqual(e, ("seq", (("eps",), ("any",))))
        self.assertIsInstance(parts_of(e), list)

    def test_calls_of(self):
        self.assertEqual(calls_of(EPS), [])
        self.assertEqual(calls_of(text("call")), [])
        self.assertEqual(calls_of(mark("m", ANY)), [])
        self.assertEqual(calls_of(call("b")), ["b"])
        for around in (star, opt, no, look):
            self.assertEqual(calls_of(around(call("b"))), ["b"])
        self.assertEqual(calls_of(mark("m", call("b"))), ["b"])

    def test_calls_of_are_told_once_from_left_to_right(self):
        e = alt(seq(no(call("d")), call("b")), mark("m", star(seq(call("c"), call("d")))), call("a"), call("b"))
        self.assertEqual(calls_of(e), ["d", "b", "c", "a"])
        self.assertEqual(calls_of(seq(call("b"), call("b"))), ["b"])
        self.assertEqual(calls_of(seq(opt(seq(ANY, call("z"))), call("a"))), ["z", "a"])

    def test_calls_of_returns_new_lists(self):
        e = seq(call("b"), call("c"))
        calls_of(e).clear()
        self.assertEqual(calls_of(e), ["b", "c"])

    def test_size_of(self):
        self.assertEqual(size_of(one(EPS)), 1)
        self.assertEqual(size_of(one(seq())), 1)
        self.assertEqual(size_of(one(seq(EPS, EPS))), 3)
        self.assertEqual(size_of(one(call("b"))), 1)
        for e in (star, opt, no, look):
            self.assertEqual(size_of(one(e(ANY))), 2)
        self.assertEqual(size_of(one(mark("m", star(ANY)))), 3)
        self.assertEqual(size_of((("a", alt(seq(ANY, ANY), EPS)), ("b", EPS), ("c", opt(text("xyz"))))), 8)
        self.assertEqual(size_of(one(nested(12))), 12)

    def test_somewhat_beyond_the_limits(self):
        wide = ("seq", (call("b"),) * 17)
        self.assertEqual(parts_of(wide), [call("b")] * 17)
        self.assertEqual(calls_of(nested(13)), [])
        self.assertEqual(calls_of(wide), ["b"])
        self.assertEqual(size_of(tuple(("a" * k, nested(13)) for k in range(1, 18))), 17 * 13)


if __name__ == "__main__":
    unittest.main()
