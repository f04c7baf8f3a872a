"""Matches and runs: points 2, 4 and 10, and graft/machine.py."""

import unittest

from graft.errors import Invalid, Looping, Unknown
from graft.facts import check
from graft.machine import match, run
from graft.terms import CHARS
from samples import (ANY, EPS, FAIL, alt, call, chars, look, mark, nested, no, one, opt, plain_run, seq, small_grammars,
                     small_texts, star, text)


class MatchTest(unittest.TestCase):
    def ends(self, e, subject, wanted):
        """Test the end of a match, or None, at each place of the text and at its end."""
        for at, end in enumerate(wanted):
            found = match(one(e), subject, at)
            self.assertEqual(found, None if end is None else (end, ()), (e, subject, at))
        self.assertEqual(len(wanted), len(subject) + 1)
        self.assertEqual(match(one(e), subject), match(one(e), subject, 0))

    def test_the_example_of_the_interface(self):
        g = (("a", ("star", ("mark", "b", ("alt", (("text", "xy"), ("set", "xz")))))),)
        self.assertEqual(match(g, "xyzy"), (3, (('b', 0, 2, ()), ('b', 2, 3, ()))))

    def test_eps_and_fail(self):
        self.ends(EPS, "ab", (0, 1, 2))
        self.ends(FAIL, "ab", (None, None, None))
        self.ends(EPS, "", (0,))

    def test_any(self):
        self.ends(ANY, "ab", (1, 2, None))
        self.ends(ANY, CHARS, tuple(range(1, 95)) + (None,))
        self.ends(ANY, "", (None,))

    def test_set(self):
        self.ends(chars("ac"), "abca", (1, None, 3, 4, None))

    def test_text(self):
        self.ends(text("ab"), "ababa", (2, None, 4, None, None, None))
        self.ends(text("aa"), "aaa", (2, 3, None, None))
        self.ends(text("x" * 20), "x" * 20, (20,) + (None,) * 20)

    def test_seq(self):
        self.ends(seq(), "a", (0, 1))
        self.ends(seq(text("a")), "ab", (1, None, None))
        self.ends(seq(text("a"), ANY, text("b")), "aabab", (3, None, None, None, None, None))
        self.ends(seq(text("a"), FAIL), "a", (None, None))

    def test_alt(self):
        self.ends(alt(), "a", (None, None))
        self.ends(alt(text("a"), text("ab")), "ab", (1, None, None))
        self.ends(alt(text("ab"), text("a")), "aba", (2, None, 3, None))
        self.ends(alt(FAIL, EPS, ANY), "a", (0, 1))

    def test_an_alt_does_not_try_again(self):
        self.ends(seq(alt(text("a"), text("ab")), text("c")), "abc", (None,) * 4)
        self.ends(seq(alt(text("ab"), text("a")), text("c")), "abcac", (3, None, None, 5, None, None))

    def test_an_alt_goes_back(self):
        self.ends(alt(seq(text("a"), text("b"), text("c")), seq(ANY, ANY)), "abd", (2, 3, None, None))

    def test_star(self):
        self.ends(star(text("a")), "aaba", (2, 2, 2, 4, 4))
        self.ends(star(text("ab")), "ababa", (4, 1, 4, 3, 4, 5))
        self.ends(seq(star(ANY), ANY), "aa", (None,) * 3)
        self.ends(star(FAIL), "a", (0, 1))

    def test_opt(self):
        self.ends(opt(text("a")), "aab", (1, 2, 2, 3))
        self.ends(seq(opt(text("a")), text("a")), "aaa", (2, 3, None, None))

    def test_not_and_and(self):
        self.ends(no(text("a")), "ab", (None, 1, 2))
        self.ends(look(text("a")), "ab", (0, None, None))
        self.ends(no(no(text("a"))), "ab", (0, None, None))
        self.ends(seq(look(text("ab")), ANY), "abaa", (1, None, None, None, None))
        self.ends(seq(no(text("ab")), ANY), "abaa", (None, 2, 3, 4, None))
        self.ends(no(ANY), "a", (None, 1))

    def test_call(self):
        grammar = (("a", seq(call("b"), call("b"))), ("b", alt(text("x"), seq(text("y"), call("b")))))
        self.assertEqual(match(grammar, "yyxyx"), (5, ()))
        self.assertEqual(match(grammar, "xyxx", 1), (4, ()))
        self.assertEqual(match(grammar, "xy"), None)
        self.assertEqual(match(grammar, "xx", 2), None)

    def test_mark(self):
        self.assertEqual(match(one(mark("m", text("ab"))), "xab", 1), (3, (("m", 1, 3, ()),)))
        self.assertEqual(match(one(mark("m", text("ab"))), "xab"), None)
        self.assertEqual(match(one(mark("m", EPS)), "xy", 2), (2, (("m", 2, 2, ()),)))

    def test_the_first_rule_is_matched(self):
        self.assertEqual(match((("b", text("x")), ("a", text("y"))), "y"), None)
        self.assertEqual(match((("z", text("y")), ("a", text("x"))), "y"), (1, ()))


class TreesTest(unittest.TestCase):
    def trees(self, e, subject, wanted):
        grammar = (("a", e), ("b", mark("b", ANY)))
        self.assertEqual(match(grammar, subject)[1], wanted)

    def test_marks_in_marks(self):
        self.trees(mark("m", mark("n", ANY)), "x", (("m", 0, 1, (("n", 0, 1, ()),)),))
        self.trees(mark("m", seq(call("b"), ANY, mark("n", call("b")))), "xyz",
                   (("m", 0, 3, (("b", 0, 1, ()), ("n", 2, 3, (("b", 2, 3, ()),)))),))

    def test_seqs_join_in_order(self):
        self.trees(seq(mark("m", ANY), mark("n", EPS), ANY, mark("l", ANY)), "xyz",
                   (("m", 0, 1, ()), ("n", 1, 1, ()), ("l", 2, 3, ())))
        self.trees(seq(seq(call("b"), call("b")), seq(), seq(call("b"))), "xyz",
                   (("b", 0, 1, ()), ("b", 1, 2, ()), ("b", 2, 3, ())))

    def test_stars_join_in_order(self):
        self.trees(star(seq(mark("m", ANY), mark("n", ANY))), "wxyzv",
                   (("m", 0, 1, ()), ("n", 1, 2, ()), ("m", 2, 3, ()), ("n", 3, 4, ())))
        self.trees(star(call("b")), "", ())

    def test_alts_opts_and_calls_have_those_of_what_matched(self):
        self.trees(alt(seq(mark("m", ANY), text("z")), mark("n", ANY)), "xy", (("n", 0, 1, ()),))
        self.trees(alt(mark("m", ANY), mark("n", ANY)), "xy", (("m", 0, 1, ()),))
        self.trees(opt(seq(mark("m", ANY), text("z"))), "xy", ())
        self.trees(opt(seq(mark("m", ANY), text("y"))), "xy", (("m", 0, 1, ()),))
        self.trees(call("b"), "x", (("b", 0, 1, ()),))

    def test_nots_and_ands_have_none(self):
        self.trees(look(call("b")), "x", ())
        self.trees(no(no(call("b"))), "x", ())
        self.trees(no(seq(call("b"), text("y"))), "x", ())
        self.trees(mark("m", seq(look(call("b")), call("b"), no(call("b")))), "x", (("m", 0, 1, (("b", 0, 1, ()),)),))

    def test_a_star_keeps_no_tree_of_what_failed(self):
        self.trees(star(seq(mark("m", text("x")), mark("n", text("y")))), "xyxx", (("m", 0, 1, ()), ("n", 1, 2, ())))

    def test_a_remembered_call_has_its_trees_again(self):
        grammar = (("a", alt(seq(call("b"), text("y")), seq(call("b"), call("b")))), ("b", mark("m", ANY)))
        self.assertEqual(match(grammar, "xz"), (2, (("m", 0, 1, ()), ("m", 1, 2, ()))))


class ErrorsTest(unittest.TestCase):
    def refused(self, grammar, kind, name):
        for raising in (lambda: match(grammar, "x"), lambda: match(grammar, "x", 1), lambda: run(grammar, "x", 0)):
            with self.assertRaises(kind) as caught:
                raising()
            self.assertEqual(caught.exception.name, name)

    def test_the_errors_of_check(self):
        self.refused(None, Invalid, "grammar")
        self.refused([("a", EPS)], Invalid, "grammar")
        self.refused(one(nested(13)), Invalid, "grammar")
        self.refused((("a", EPS), ("b", alt(call("a"), call("z")))), Unknown, "z")
        self.refused((("a", EPS), ("b", star(EPS))), Looping, "b")
        self.refused(one(call("a")), Looping, "a")

    def test_their_order(self):
        self.refused((("a", call("z")), ("b", ("text", ""))), Invalid, "grammar")
        self.refused((("a", call("a")), ("b", call("z"))), Unknown, "z")


class RunTest(unittest.TestCase):
    def test_the_example_of_the_interface(self):
        g = (("a", ("alt", (("seq", (("call", "b"), ("text", "x"))), ("call", "b")))), ("b", ("any",)))
        self.assertEqual(run(g, "yy", 0), ((1, ()), [('a', 0), ('b', 0)]))

    def test_the_first_rule_is_entered_first(self):
        self.assertEqual(run(one(FAIL), "xy", 1), (None, [("a", 1)]))
        self.assertEqual(run((("b", mark("m", EPS)), ("a", EPS)), "", 0), ((0, (("m", 0, 0, ()),)), [("b", 0)]))

    def test_a_call_that_failed_is_remembered(self):
        grammar = (("a", alt(seq(call("b"), ANY), seq(ANY, call("b")), call("b"), no(call("b")))), ("b", text("z")))
        self.assertEqual(run(grammar, "xy", 0), ((0, ()), [("a", 0), ("b", 0), ("b", 1)]))

    def test_calls_in_looks_are_entered_and_remembered(self):
        grammar = (("a", seq(no(call("b")), look(call("c")), alt(call("b"), call("c")))), ("b", text("y")), ("c", ANY))
        self.assertEqual(run(grammar, "xy", 0), ((1, ()), [("a", 0), ("b", 0), ("c", 0)]))

    def test_what_is_not_reached_is_not_entered(self):
        grammar = (("a", alt(seq(FAIL, call("b")), EPS, call("b"))), ("b", ANY))
        self.assertEqual(run(grammar, "x", 0), ((0, ()), [("a", 0)]))

    def test_calls_are_entered_in_the_order_of_the_run(self):
        grammar = (("a", star(call("b"))), ("b", alt(call("c"), seq(call("d"), call("c")))), ("c", text("x")),
                   ("d", text("y")))
        self.assertEqual(run(grammar, "xyx", 0), ((3, ()), [
            ("a", 0), ("b", 0), ("c", 0), ("b", 1), ("c", 1), ("d", 1), ("c", 2), ("b", 3), ("c", 3), ("d", 3)]))

    def test_the_same_rule_at_another_place_is_entered(self):
        grammar = (("a", opt(seq(ANY, call("a")))),)
        self.assertEqual(run(grammar, "xyz", 1), ((3, ()), [("a", 1), ("a", 2), ("a", 3)]))

    def test_runs_do_not_remember_earlier_runs(self):
        grammar = (("a", call("b")), ("b", ANY))
        first = run(grammar, "x", 0)
        first[1].clear()
        self.assertEqual(run(grammar, "x", 0), ((1, ()), [("a", 0), ("b", 0)]))
        self.assertEqual(run(grammar, "", 0), (None, [("a", 0), ("b", 0)]))

    def test_many_grammars_against_a_plain_matcher(self):
        tested = 0
        for grammar in small_grammars():
            try:
                check(grammar)
            except Looping:
                continue
            for subject in small_texts():
                for at in range(len(subject) + 1):
                    wanted = plain_run(grammar, subject, at)
                    self.assertEqual(run(grammar, subject, at), wanted, (grammar, subject, at))
                    self.assertEqual(match(grammar, subject, at), wanted[0])
                    self.assertEqual(len(set(wanted[1])), len(wanted[1]))
                    tested += 1
        self.assertGreater(tested, 10000)


class LongTextsTest(unittest.TestCase):
    many = 20000

    def test_a_rule_that_calls_itself_to_the_end_of_a_long_text(self):
        grammar = (("a", alt(seq(mark("m", ANY), call("a")), EPS)),)
        (end, trees), entered = run(grammar, "x" * self.many, 0)
        self.assertEqual(end, self.many)
        self.assertEqual(trees, tuple(("m", k, k + 1, ()) for k in range(self.many)))
        self.assertEqual(entered, [("a", k) for k in range(self.many + 1)])

    def test_a_star_over_a_long_text(self):
        end, trees = match(one(star(mark("m", ANY))), "x" * self.many)
        self.assertEqual((end, len(trees), trees[-1]), (self.many, self.many, ("m", self.many - 1, self.many, ())))

    def test_trees_as_deep_as_a_long_text(self):
        grammar = (("a", mark("m", opt(seq(ANY, call("a"))))),)
        end, trees = match(grammar, "x" * self.many)
        depth = 0
        while trees:
            self.assertEqual(trees[0][:3], ("m", depth, end))
            self.assertEqual(len(trees), 1)
            trees = trees[0][3]
            depth += 1
        self.assertEqual(depth, self.many + 1)

    def test_remembering_keeps_runs_short(self):
        twice = tuple((name, alt(seq(call(after), text("!")), seq(call(after), text("?")), call(after)))
                      for name, after in zip("abcdefgh", "bcdefghi"))
        found, entered = run(twice + (("i", ANY),), "x", 0)
        self.assertEqual(found, (1, ()))
        self.assertEqual(entered, [(name, 0) for name in "abcdefghi"])


if __name__ == "__main__":
    unittest.main()
