"""What is known of grammars: points 6 to 9, and graft/facts.py."""

import unittest

from graft.errors import Invalid, Looping, Refused, Unknown
from graft.facts import check, empty_rules, firsts, may_be_empty, never_fails
from graft.machine import match
from graft.terms import CHARS
from samples import (ANY, EPS, FAIL, alt, call, chars, ends, look, mark, nested, no, one, opt, seq, small_grammars,
                     small_texts, star, text)


class EmptyTest(unittest.TestCase):
    def empty(self, e, names=()):
        self.assertIs(may_be_empty(e, list(names)), True)

    def full(self, e, names=()):
        self.assertIs(may_be_empty(e, list(names)), False)

    def test_always(self):
        for e in (EPS, star(ANY), opt(ANY), no(ANY), look(ANY), star(FAIL), opt(FAIL), no(EPS), look(text("x"))):
            self.empty(e)
            self.empty(e, ["b"])

    def test_never(self):
        for e in (FAIL, ANY, chars("ab"), text("x")):
            self.full(e)
            self.full(e, ["a", "b", "any", "fail", "x"])

    def test_calls(self):
        self.full(call("b"))
        self.full(call("b"), ["a", "bb"])
        self.empty(call("b"), ["b"])
        self.empty(call("b"), ["a", "b"])

    def test_seqs(self):
        self.empty(seq())
        self.empty(seq(EPS))
        self.full(seq(ANY))
        self.empty(seq(EPS, opt(ANY), star(ANY)))
        self.full(seq(EPS, ANY, EPS))
        self.full(seq(ANY, EPS))
        self.full(seq(EPS, call("b")))
        self.empty(seq(EPS, call("b")), ["b"])
        self.full(seq(call("c"), call("b")), ["b"])

    def test_alts(self):
        self.full(alt())
        self.empty(alt(EPS))
        self.full(alt(ANY, FAIL))
        self.empty(alt(ANY, EPS))
        self.empty(alt(EPS, ANY))
        self.full(alt(ANY, call("b")))
        self.empty(alt(ANY, call("b")), ["b"])

    def test_marks(self):
        self.empty(mark("m", EPS))
        self.full(mark("m", ANY))
        self.full(mark("m", call("b")))
        self.full(mark("b", call("c")), ["b"])
        self.empty(mark("m", call("b")), ["b"])

    def test_names_are_not_changed(self):
        names = ["b", "c"]
        may_be_empty(seq(call("b"), call("d")), names)
        self.assertEqual(names, ["b", "c"])

    def test_empty_rules_of_one_rule(self):
        self.assertEqual(empty_rules(one(EPS)), ["a"])
        self.assertEqual(empty_rules(one(ANY)), [])
        self.assertEqual(empty_rules(one(call("a"))), [])
        self.assertEqual(empty_rules(one(alt(call("a"), EPS))), ["a"])
        self.assertEqual(empty_rules(one(seq(call("a"), EPS))), [])

    def test_empty_rules_that_need_each_other(self):
        grammar = (("a", seq(call("b"), call("c"))), ("b", alt(ANY, call("d"))), ("c", mark("m", call("b"))),
                   ("d", star(ANY)), ("e", seq(call("a"), ANY)))
        self.assertEqual(empty_rules(grammar), ["a", "b", "c", "d"])
        back = (("d", star(ANY)), ("x", ANY), ("c", mark("m", call("b"))), ("b", alt(ANY, call("d"))),
                ("a", seq(call("b"), call("c"))))
        self.assertEqual(empty_rules(back), ["d", "c", "b", "a"])

    def test_empty_rules_are_the_least_set(self):
        self.assertEqual(empty_rules((("a", call("b")), ("b", call("a")))), [])
        self.assertEqual(empty_rules((("a", call("b")), ("b", alt(call("a"), call("c"))), ("c", opt(ANY)))),
                         ["a", "b", "c"])

    def test_a_chain_of_sixteen_rules(self):
        names = "abcdefghijklmnop"
        chain = tuple((names[k], call(names[k + 1])) for k in range(15)) + (("p", EPS),)
        self.assertEqual(empty_rules(chain), list(names))
        self.assertEqual(empty_rules(chain[:-1] + (("p", ANY),)), [])

    def test_empty_rules_returns_new_lists(self):
        empty_rules(one(EPS)).append("b")
        self.assertEqual(empty_rules(one(EPS)), ["a"])


class CheckTest(unittest.TestCase):
    def fine(self, grammar):
        self.assertIs(check(grammar), grammar)

    def refused(self, grammar, kind, name):
        with self.assertRaises(kind) as caught:
            check(grammar)
        self.assertEqual(caught.exception.name, name)
        self.assertIs(type(caught.exception), kind)
        self.assertIsInstance(caught.exception, Refused)
        self.assertIsInstance(caught.exception, ValueError)

    def test_a_grammar_is_returned(self):
        for e in (EPS, FAIL, ANY, chars("ab"), text("x"), seq(), alt(), star(ANY), opt(ANY), no(ANY), look(ANY),
                  mark("m", ANY), nested(12)):
            self.fine(one(e))
        self.fine((("a", call("b")), ("b", ANY)))

    def test_invalid(self):
        for thing in (None, [], (), "a", (("a", ("text", "")),), [("a", EPS)], (("a", EPS), ("a", EPS)),
                      one(nested(13))):
            self.refused(thing, Invalid, "grammar")

    def test_unknown(self):
        self.refused(one(call("b")), Unknown, "b")
        self.refused(one(seq(ANY, opt(call("c")), call("b"))), Unknown, "c")
        self.refused((("a", seq(ANY, call("b"))), ("b", alt(ANY, call("z"), call("y")))), Unknown, "z")
        self.refused((("b", call("a")), ("a", seq(call("b"), call("d"))), ("c", call("e"))), Unknown, "d")
        self.refused(one(mark("b", no(call("b")))), Unknown, "b")

    def test_invalid_stands_before_unknown_and_looping(self):
        self.refused((("a", call("b")), ("a", call("a"))), Invalid, "grammar")
        self.refused((("a", call("a")), ("b", call("zz")), ("c", ["eps"])), Invalid, "grammar")

    def test_unknown_stands_before_looping(self):
        self.refused((("a", call("a")), ("b", call("z"))), Unknown, "z")
        self.refused(one(star(opt(call("b")))), Unknown, "b")
        self.refused((("a", star(EPS)), ("b", seq(ANY, call("y"), call("x")))), Unknown, "y")

    def test_a_rule_that_calls_itself(self):
        self.refused(one(call("a")), Looping, "a")
        for e in (star, opt, no, look):
            self.refused(one(e(call("a"))), Looping, "a")
        self.refused(one(mark("m", call("a"))), Looping, "a")
        self.refused(one(alt(ANY, call("a"))), Looping, "a")
        self.refused(one(alt(call("a"), ANY)), Looping, "a")
        self.refused(one(alt(seq(call("a"), ANY), ANY)), Looping, "a")

    def test_a_rule_that_calls_itself_through_others(self):
        self.refused((("a", call("b")), ("b", call("c")), ("c", call("a"))), Looping, "a")
        self.refused((("s", call("b")), ("b", call("c")), ("c", alt(ANY, call("b")))), Looping, "b")
        self.refused((("s", call("c")), ("b", call("c")), ("c", alt(ANY, call("b")))), Looping, "b")
        self.refused((("s", ANY), ("t", call("u")), ("u", seq(call("v"), ANY)), ("v", no(call("t")))), Looping, "t")

    def test_a_rule_that_calls_itself_behind_something_that_may_be_empty(self):
        for e in (EPS, opt(ANY), star(ANY), no(ANY), look(ANY), seq(), alt(ANY, EPS), mark("m", EPS),
                  seq(EPS, opt(ANY))):
            self.refused(one(seq(e, call("a"))), Looping, "a")
            self.refused(one(seq(e, e, call("a"), ANY)), Looping, "a")
            self.refused(one(seq(seq(e, e), call("a"), ANY)), Looping, "a")
        self.refused((("a", seq(call("b"), call("a"))), ("b", opt(ANY))), Looping, "a")
        self.refused((("a", seq(call("b"), call("c"))), ("b", call("d")), ("c", call("a")), ("d", star(ANY))),
                     Looping, "a")

    def test_a_rule_that_calls_itself_behind_a_character(self):
        for e in (ANY, chars("x"), text("x"), FAIL, seq(ANY), seq(EPS, ANY), alt(ANY, text("x")), mark("m", ANY),
                  alt()):
            self.fine(one(seq(e, call("a"))))
            self.fine(one(opt(seq(opt(ANY), e, call("a")))))
        self.fine((("a", opt(seq(call("b"), call("a")))), ("b", ANY)))
        self.fine((("a", alt(seq(text("x"), call("b")), EPS)), ("b", seq(no(text("y")), ANY, call("a")))))

    def test_a_call_behind_a_call_in_a_circle(self):
        self.fine((("a", seq(text("x"), call("b"))), ("b", alt(call("c"), EPS)), ("c", seq(ANY, call("a")))))
        self.refused((("a", seq(text("x"), call("b"))), ("b", alt(call("c"), EPS)), ("c", seq(opt(ANY), call("b")))),
                     Looping, "b")

    def test_a_star_whose_expression_may_be_empty(self):
        for e in (EPS, opt(ANY), star(ANY), no(ANY), look(ANY), seq(), alt(ANY, EPS), mark("m", EPS)):
            self.refused(one(star(e)), Looping, "a")
            self.refused((("s", ANY), ("t", seq(ANY, mark("m", alt(ANY, seq(ANY, star(e))))))), Looping, "t")
            self.refused(one(no(look(opt(star(e))))), Looping, "a")
            self.refused((("s", FAIL), ("t", seq(FAIL, star(e))), ("u", ANY)), Looping, "t")
        self.refused((("a", star(call("b"))), ("b", opt(ANY))), Looping, "a")
        self.refused((("a", star(seq(ANY, star(call("b"))))), ("b", mark("m", call("c"))), ("c", EPS)), Looping, "a")
        self.fine((("a", star(call("b"))), ("b", seq(opt(ANY), ANY))))
        self.fine(one(star(seq(opt(ANY), ANY))))

    def test_the_first_rule_is_told(self):
        self.refused((("a", ANY), ("c", star(EPS)), ("b", call("b"))), Looping, "c")
        self.refused((("a", ANY), ("c", call("c")), ("b", star(EPS))), Looping, "c")
        self.refused((("a", call("b")), ("b", star(EPS)), ("c", call("c"))), Looping, "b")

    def test_only_a_rule_in_the_circle_is_told(self):
        self.refused((("a", call("b")), ("b", call("c")), ("c", call("b"))), Looping, "b")

    def test_what_is_not_called_counts_too(self):
        self.refused((("a", ANY), ("b", call("b"))), Looping, "b")
        self.refused((("a", ANY), ("b", call("d"))), Unknown, "d")


class FirstsTest(unittest.TestCase):
    grammar = (
        ("a", seq(opt(text("x")), chars("yz"))),
        ("b", alt(call("a"), mark("m", text("mn")), no(text("n")))),
        ("c", alt(seq(text("("), call("c"), text(")")), call("d"))),
        ("d", alt(seq(text("d"), call("c")), EPS)),
    )

    def expect(self, e, signs):
        self.assertEqual(firsts(self.grammar, e), signs)

    def test_the_example_of_the_interface(self):
        self.assertEqual(firsts((("a", ("seq", (("opt", ("text", "x")), ("set", "yz")))),), ("call", "a")), 'xyz')

    def test_without_calls(self):
        self.expect(ANY, CHARS)
        self.expect(chars("aez"), "aez")
        self.expect(text("zab"), "z")
        for e in (EPS, FAIL, no(text("x")), look(text("x")), seq(), alt()):
            self.expect(e, "")

    def test_around(self):
        for e in (star, opt, seq, alt):
            self.expect(e(text("xy")), "x")
        self.expect(mark("m", text("xy")), "x")
        self.expect(star(seq(opt(text("b")), text("a"))), "ab")

    def test_alts(self):
        self.expect(alt(text("z"), chars("ay"), EPS, FAIL, text("b")), "abyz")
        self.expect(alt(no(text("z")), text("b"), text("bc")), "b")
        self.expect(alt(ANY, text("b")), CHARS)

    def test_seqs(self):
        self.expect(seq(text("z"), text("a")), "z")
        self.expect(seq(opt(text("z")), star(text("b")), text("a"), text("c")), "abz")
        self.expect(seq(no(text("z")), text("a"), text("b")), "a")
        self.expect(seq(look(text("z")), EPS, opt(text("y"))), "y")
        self.expect(seq(FAIL, text("a")), "")
        self.expect(seq(seq(opt(text("b"))), alt(text("c"), EPS), text("a")), "abc")

    def test_each_character_once_in_ascending_order(self):
        self.expect(alt(chars("bc"), text("cb"), chars("ab"), text("~"), text(" ")), " abc~")

    def test_calls(self):
        self.expect(call("a"), "xyz")
        self.expect(call("b"), "mxyz")
        self.expect(seq(call("b"), text("a")), "amxyz")
        self.expect(seq(call("a"), text("a")), "xyz")

    def test_circles_of_calls(self):
        self.expect(call("c"), "(d")
        self.expect(call("d"), "d")
        self.expect(seq(call("d"), text("!")), "!d")
        grammar = (("a", alt(seq(text("x"), call("b")), text("p"))), ("b", alt(call("c"), text("q"))),
                   ("c", alt(seq(opt(call("d")), text("y"), call("a")))), ("d", seq(text("z"), call("b"))))
        check(grammar)
        self.assertEqual(firsts(grammar, call("a")), "px")
        self.assertEqual(firsts(grammar, call("b")), "qyz")
        self.assertEqual(firsts(grammar, call("c")), "yz")
        self.assertEqual(firsts(grammar, call("d")), "z")

    def test_a_long_chain_of_calls_in_both_orders(self):
        names = "abcdefghijklmnop"
        for order in (names, names[::-1]):
            chain = tuple((order[k], alt(text(order[k]), call(order[k + 1]))) for k in range(15)) + ((order[15], ANY),)
            self.assertEqual(firsts(chain, call(order[0])), CHARS)
            short = chain[:-1] + ((order[15], text("!")),)
            self.assertEqual(firsts(short, call(order[0])), "".join(sorted("!" + order[:15])))

    def test_a_match_that_takes_something_begins_with_one_of_them(self):
        for grammar in small_grammars():
            if not ends(grammar):
                continue
            signs = firsts(grammar, grammar[0][1])
            self.assertEqual(signs, "".join(sorted(set(signs))))
            for subject in small_texts():
                found = match(grammar, subject)
                if found and found[0] > 0:
                    self.assertIn(subject[0], signs)
                if found and found[0] == 0:
                    self.assertIn("a", empty_rules(grammar))


class NeverFailsTest(unittest.TestCase):
    def never(self, e):
        self.assertIs(never_fails(e), True)

    def maybe(self, e):
        self.assertIs(never_fails(e), False)

    def test_plain(self):
        self.never(EPS)
        for e in (FAIL, ANY, chars(CHARS), text("x"), call("a")):
            self.maybe(e)

    def test_stars_and_opts(self):
        for e in (FAIL, ANY, EPS, call("b")):
            self.never(star(e))
            self.never(opt(e))

    def test_seqs(self):
        self.never(seq())
        self.never(seq(EPS))
        self.never(seq(EPS, star(ANY), opt(FAIL)))
        self.maybe(seq(EPS, ANY))
        self.maybe(seq(ANY, EPS))
        self.maybe(seq(EPS, call("a")))

    def test_alts(self):
        self.maybe(alt())
        self.never(alt(EPS))
        self.never(alt(ANY, EPS))
        self.never(alt(EPS, ANY))
        self.maybe(alt(ANY, FAIL))
        self.maybe(alt(no(ANY), ANY))

    def test_marks_and_looks(self):
        self.never(mark("m", EPS))
        self.maybe(mark("m", ANY))
        self.never(look(EPS))
        self.maybe(look(ANY))
        self.never(mark("m", look(seq(opt(ANY)))))

    def test_nots(self):
        self.never(("not", ("fail",)))
        self.maybe(no(ANY))
        self.maybe(no(EPS))
        self.maybe(no(alt()))
        self.maybe(no(alt(FAIL)))
        self.maybe(no(no(EPS)))
        self.never(seq(no(FAIL), look(no(FAIL))))

    def test_what_never_fails_always_matches(self):
        for grammar in small_grammars():
            if ends(grammar) and never_fails(grammar[0][1]):
                for subject in small_texts():
                    self.assertIsNotNone(match(grammar, subject))


if __name__ == "__main__":
    unittest.main()
