"""The pass: points 13 and 14, and graft/passes.py."""

import unittest

from graft.errors import Invalid, Looping, Refused, Unknown
from graft.logs import is_step, replay, stepped
from graft.passes import improved
from graft.terms import size_of
from samples import (ANY, EPS, FAIL, PASS, all_steps, alt, any_grammars, call, chars, ends, look, mark, matches_of,
                     nested, no, one, opt, seq, small_grammars, star, text)

X, Y, Z = text("x"), text("y"), text("z")


class ImprovedTest(unittest.TestCase):
    def improves(self, grammar):
        """Test all that is promised of the pass, and return the grammar that it reaches."""
        reached, log = improved(grammar)
        self.assertIsInstance(log, list)
        self.assertTrue(all(is_step(step) and step[0] in PASS for step in log), log)
        self.assertEqual(replay(grammar, log), reached)
        self.assertLessEqual(size_of(reached), size_of(grammar))
        for step in all_steps(reached, PASS):
            self.assertIsNone(stepped(reached, step), (grammar, reached, step))
        return reached

    def becomes(self, e, wanted):
        """Test what the pass makes of an expression, where all logs lead to the same."""
        self.assertEqual(self.improves(one(e)), one(wanted))
        self.assertEqual(self.improves(one(mark("m", e))), one(mark("m", wanted)))
        self.assertEqual(self.improves((("b", seq(ANY, mark("m", e), opt(call("b")))), ("c", call("b")))),
                         (("b", seq(ANY, mark("m", wanted), opt(call("b")))),))

    def test_each_graft_of_the_pass(self):
        self.becomes(seq(X, seq(ANY, Y)), seq(X, ANY, Y))
        self.becomes(alt(X, alt(ANY, Y)), alt(X, ANY, Y))
        self.becomes(seq(X), X)
        self.becomes(alt(X), X)
        self.becomes(seq(), EPS)
        self.becomes(alt(), FAIL)
        self.becomes(seq(ANY, EPS, X), seq(ANY, X))
        self.becomes(alt(ANY, FAIL, X), alt(ANY, X))
        self.becomes(seq(ANY, FAIL, X), FAIL)
        self.becomes(alt(X, star(Y), Z, ANY), alt(X, star(Y)))
        self.becomes(alt(X, ANY, X), alt(X, ANY))
        self.becomes(alt(chars("x"), chars("y")), chars("xy"))
        self.becomes(seq(X, Y), text("xy"))
        self.becomes(no(no(X)), look(X))
        self.becomes(look(look(X)), look(X))
        self.becomes(no(look(X)), no(X))
        self.becomes(opt(star(X)), star(X))
        self.becomes(seq(look(ANY), ANY, X), seq(ANY, X))

    def test_drop_rule(self):
        self.assertEqual(self.improves((("a", X), ("b", Y))), one(X))
        self.assertEqual(self.improves((("a", X), ("b", seq(X, opt(call("b")))))), one(X))
        # The rule that is called stands before and behind the one that calls it.
        self.assertEqual(self.improves((("a", X), ("b", Y), ("c", call("b")), ("d", Z))), one(X))
        self.assertEqual(self.improves((("a", X), ("d", call("c")), ("c", call("b")), ("b", Y))), one(X))
        self.assertEqual(self.improves((("a", call("c")), ("b", Y), ("c", Z))), (("a", call("c")), ("c", Z)))

    def test_rules_that_call_each_other_stay(self):
        circle = (("a", X), ("b", seq(X, call("c"))), ("c", opt(seq(X, call("b")))))
        self.assertEqual(improved(circle), (circle, []))
        self.assertEqual(self.improves(circle + (("d", call("b")),)), circle)

    def test_a_rule_whose_calls_the_grafts_leave_out(self):
        self.assertEqual(self.improves((("a", alt(EPS, call("b"))), ("b", call("c")), ("c", X))), one(EPS))
        self.assertEqual(self.improves((("a", seq(call("b"), FAIL)), ("b", X))), one(FAIL))

    def test_a_grammar_to_which_no_step_applies(self):
        for e in (EPS, FAIL, ANY, chars("xy"), X, seq(X, ANY), alt(X, EPS), alt(X, Y), star(X), opt(X), no(X), look(X),
                  mark("m", EPS), mark("m", mark("m", X)), seq(chars("x"), X), opt(seq(X, call("a"))), no(opt(X)),
                  seq(look(X), Y), seq(X, look(X)), seq(no(X), ANY), seq(look(X), ANY, X), alt(no(ANY), X),
                  alt(chars("x"), ANY, chars("y")), seq(text("x" * 20), Y), seq(text("x" * 11), text("y" * 10))):
            self.assertEqual(improved(one(e)), (one(e), []), e)
            self.assertEqual(self.improves(one(e)), one(e))

    def test_grafts_that_are_not_in_the_pass_are_not_used(self):
        for e in (alt(X, Y), chars("x"), opt(X), alt(X, EPS), star(X), text("xy"), alt(seq(X, ANY), seq(X, no(X))),
                  seq(X, alt(ANY, no(X)))):
            self.assertEqual(improved(one(e)), (one(e), []))
        grammar = (("a", seq(call("b"), ANY)), ("b", X))
        self.assertEqual(improved(grammar), (grammar, []))

    def test_grafts_that_make_place_for_others(self):
        self.becomes(seq(seq(seq()), alt(FAIL, alt(X))), X)
        self.becomes(opt(seq(EPS, star(Y))), star(Y))
        self.becomes(no(seq(no(seq(X)))), look(X))
        self.becomes(alt(seq(X), alt(X), seq(X, EPS)), X)
        self.becomes(seq(look(seq(X)), seq(seq(X))), X)
        self.becomes(alt(chars("x"), alt(FAIL, chars("z")), chars("y")), chars("xyz"))
        self.becomes(seq(opt(alt(seq(X, FAIL), EPS)), Y), Y)
        self.becomes(alt(X, seq(EPS), Y, ANY), alt(X, EPS))
        self.becomes(seq(X, seq(Y, seq(Z, seq(X, Y)))), text("xyzxy"))
        self.becomes(star(seq(alt(seq(X)), seq())), star(X))

    def test_sixteen_and_more_parts(self):
        self.becomes(seq(*[ANY] * 14, seq(ANY, X)), seq(*[ANY] * 15, X))
        e = seq(*[ANY] * 15, seq(ANY, X))
        self.assertEqual(improved(one(e)), (one(e), []))
        # The outer seq has place for the inner parts only after some of its own are joined.
        self.becomes(seq(X, Y, *[ANY] * 13, seq(ANY, X)), seq(text("xy"), *[ANY] * 14, X))
        self.becomes(seq(seq(ANY, X), *[ANY] * 14, EPS), seq(ANY, X, *[ANY] * 14))
        self.becomes(alt(*[chars(sign) for sign in "abcdefghijklmno"], alt(chars("p"), ANY)),
                     alt(chars("abcdefghijklmnop"), ANY))

    def test_twenty_and_more_characters(self):
        self.becomes(seq(text("x" * 10), text("y" * 10)), text("x" * 10 + "y" * 10))
        reached = self.improves(one(seq(text("x" * 7), text("y" * 7), text("z" * 7))))
        self.assertEqual(size_of(reached), 3)

    def test_many_grammars(self):
        changed = 0
        for grammar in any_grammars(3, 400, 5):
            reached = self.improves(grammar)
            self.assertEqual(matches_of(reached), matches_of(grammar))
            changed += reached != grammar
        self.assertGreater(changed, 200)

    def test_many_small_grammars(self):
        for k, grammar in enumerate(small_grammars()):
            if k % 5 == 0 and ends(grammar):
                self.assertEqual(matches_of(self.improves(grammar)), matches_of(grammar))

    def test_a_grammar_that_was_improved_stays(self):
        for grammar in any_grammars(4, 100, 5):
            reached, _ = improved(grammar)
            self.assertEqual(improved(reached), (reached, []))

    def test_a_large_grammar(self):
        wide = alt(*[seq(*[seq(X, EPS, alt(FAIL, Y))] * 16)] * 16)
        grammar = tuple((name, wide) for name in "abcdefgh")
        reached, log = improved(grammar)
        self.assertEqual(reached, one(seq(text("xy" * 10), text("xy" * 6))))
        self.assertEqual(log[-7:], [("drop-rule", 1, (), ())] * 7)

    def test_a_deep_grammar(self):
        e = X
        for _ in range(11):
            e = seq(e)
        self.assertEqual(self.improves(one(e)), one(X))
        self.assertEqual(self.improves(one(nested(12))), one(EPS))

    def test_the_errors_of_check(self):
        for grammar, kind, name in (
                (None, Invalid, "grammar"), ([("a", EPS)], Invalid, "grammar"), (one(nested(13)), Invalid, "grammar"),
                (one(seq(*[EPS] * 17)), Invalid, "grammar"), (one(alt(EPS, call("z"))), Unknown, "z"),
                ((("a", X), ("b", call("y"))), Unknown, "y"), (one(alt(EPS, call("a"))), Looping, "a"),
                ((("a", X), ("b", star(opt(X)))), Looping, "b")):
            with self.assertRaises(kind) as caught:
                improved(grammar)
            self.assertEqual(caught.exception.name, name)
            self.assertIsInstance(caught.exception, Refused)

    def test_logs_are_new_lists(self):
        for grammar in (one(X), one(seq(X))):
            kept = list(improved(grammar)[1])
            improved(grammar)[1].append(None)
            self.assertEqual(improved(grammar)[1], kept)


if __name__ == "__main__":
    unittest.main()
