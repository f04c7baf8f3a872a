"""Steps and logs: points 5, 12 and 13, and graft/logs.py."""

import unittest

from graft.errors import BadStep, Invalid, Looping, Refused, Unknown
from graft.facts import check
from graft.logs import expression_at, is_step, replay, stepped
from graft.terms import is_grammar
from samples import (ANY, EPS, FAIL, MANY, all_paths, alt, any_grammars, call, chars, look, mark, matches_of, nested,
                     no, one, opt, seq, star, text)

X, Y = text("x"), text("y")

# Things that are no steps, beside a grammar to which a step with their good parts applies.
NO_STEPS = (
    None, True, False, 0, 1, -1, 2.5, "", "lone", "drop-rule", b"lone", [], {}, set(), object(), (), is_step, str,
    ("lone",), ("lone", 0), ("lone", 0, ()), ("lone", 0, (), (), ()), ["lone", 0, (), ()],
    ("", 0, (), ()), ("Lone", 0, (), ()), ("lone ", 0, (), ()), ("seq", 0, (), ()), ("drop", 0, (), ()),
    ("drop_rule", 0, (), ()), ("newrule", 0, (), ()), (None, 0, (), ()), (0, 0, (), ()), (b"lone", 0, (), ()),
    (("lone",), 0, (), ()), (["lone"], 0, (), ()), ({}, 0, (), ()),
    ("lone", -1, (), ()), ("lone", 1001, (), ()), ("lone", 10 ** 30, (), ()), ("lone", None, (), ()),
    ("lone", True, (), ()), ("lone", False, (), ()), ("lone", 0.0, (), ()), ("lone", "0", (), ()),
    ("lone", (0,), (), ()), ("lone", [], (), ()),
    ("lone", 0, [], ()), ("lone", 0, None, ()), ("lone", 0, 0, ()), ("lone", 0, "", ()), ("lone", 0, {}, ()),
    ("lone", 0, (-1,), ()), ("lone", 0, (1001,), ()), ("lone", 0, (True,), ()), ("lone", 0, (0, False), ()),
    ("lone", 0, (0.0,), ()), ("lone", 0, (None,), ()), ("lone", 0, ("0",), ()), ("lone", 0, ((0,),), ()),
    ("lone", 0, ([],), ()), ("lone", 0, (10 ** 30,), ()),
    ("lone", 0, (), []), ("lone", 0, (), None), ("lone", 0, (), 0), ("lone", 0, (), ""), ("lone", 0, (), {}),
    ("seq-eps", 0, (), (-1,)), ("seq-eps", 0, (), (1001,)), ("seq-eps", 0, (), (True,)), ("seq-eps", 0, (), (False,)),
    ("seq-eps", 0, (), (0.0,)), ("seq-eps", 0, (), (None,)), ("seq-eps", 0, (), ("0",)), ("seq-eps", 0, (), ((),)),
)


class IsStepTest(unittest.TestCase):
    def test_each_name(self):
        self.assertEqual(len(MANY), 21)
        for name in list(MANY) + ["drop-rule", "new-rule"]:
            for index in (0, 1, 999, 1000):
                for path in ((), (0,), (1000,), (1, 0, 1000) * 100):
                    for numbers in ((), (0,), (3, 1000), (0,) * 500):
                        self.assertIs(is_step((name, index, path, numbers)), True)

    def test_things_that_are_none(self):
        for thing in NO_STEPS:
            self.assertIs(is_step(thing), False, repr(thing))

    def test_tuples_nested_far(self):
        thing = ()
        for _ in range(100000):
            thing = (thing,)
        for step in (thing, ("lone", 0, thing, ()), ("lone", 0, (), thing), (thing, 0, (), ())):
            self.assertIs(is_step(step), False)


class ExpressionAtTest(unittest.TestCase):
    e = alt(seq(X, opt(mark("m", star(no(look(Y)))))), call("b"), seq(), chars("ab"))

    def at(self, path, wanted):
        self.assertEqual(expression_at(self.e, path), wanted)

    def test_the_empty_path(self):
        self.at((), self.e)
        for e in (EPS, FAIL, ANY, X, chars("a"), call("b"), seq(), star(ANY)):
            self.assertEqual(expression_at(e, ()), e)

    def test_paths(self):
        self.at((0,), self.e[1][0])
        self.at((1,), call("b"))
        self.at((2,), seq())
        self.at((3,), chars("ab"))
        self.at((0, 0), X)
        self.at((0, 1), opt(mark("m", star(no(look(Y))))))
        self.at((0, 1, 0), mark("m", star(no(look(Y)))))
        self.at((0, 1, 0, 0), star(no(look(Y))))
        self.at((0, 1, 0, 0, 0), no(look(Y)))
        self.at((0, 1, 0, 0, 0, 0), look(Y))
        self.at((0, 1, 0, 0, 0, 0, 0), Y)

    def test_paths_beyond_the_expression(self):
        for path in ((4,), (1000,), (10 ** 30,), (0, 2), (0, 0, 0), (1, 0), (2, 0), (3, 0), (3, 1), (0, 1, 1),
                     (0, 1, 0, 1), (0, 1, 0, 2), (0, 1, 0, 0, 1), (0, 1, 0, 0, 0, 0, 0, 0), (4, 0), (0,) * 100):
            self.at(path, None)

    def test_numbers_that_are_no_indexes(self):
        for path in ((-1,), (-4,), (0, -1), (True,), (False,), (0, True), (False, 1)):
            self.at(path, None)


class SteppedTest(unittest.TestCase):
    def makes(self, grammar, step, wanted):
        self.assertEqual(stepped(check(grammar), step), wanted, step)
        self.assertEqual(check(wanted), wanted)

    def refuses(self, grammar, step):
        self.assertIsNone(stepped(grammar, step), (grammar, step))

    def test_a_graft_at_the_empty_path(self):
        self.makes(one(seq(X)), ("lone", 0, (), ()), one(X))
        self.makes((("a", call("b")), ("b", alt(X, FAIL))), ("alt-fail", 1, (), (1,)),
                   (("a", call("b")), ("b", alt(X))))

    def test_a_graft_at_each_kind_of_place(self):
        for around in (star, opt, no, look, seq, alt, lambda e: mark("m", e), lambda e: opt(mark("m", seq(X, e)))):
            place = list(all_paths(around(X)))[-1]
            self.makes(one(around(X)), ("text-set", 0, place, ()), one(around(chars("x"))))
        self.makes(one(seq(X, X, X)), ("text-set", 0, (1,), ()), one(seq(X, chars("x"), X)))
        self.makes(one(alt(seq(X, X), seq(X, X))), ("text-set", 0, (1, 0), ()), one(alt(seq(X, X), seq(chars("x"), X))))

    def test_only_the_rule_with_the_index_changes(self):
        grammar = (("c", X), ("a", X), ("b", X))
        self.makes(grammar, ("text-set", 0, (), ()), (("c", chars("x")), ("a", X), ("b", X)))
        self.makes(grammar, ("text-set", 1, (), ()), (("c", X), ("a", chars("x")), ("b", X)))
        self.makes(grammar, ("text-set", 2, (), ()), (("c", X), ("a", X), ("b", chars("x"))))

    def test_no_such_rule_or_expression(self):
        grammar = (("a", seq(X)), ("b", seq(X)))
        for index in (2, 3, 1000):
            for name in ("lone", "drop-rule", "new-rule"):
                self.refuses(grammar, (name, index, (), ()))
        for path in ((1,), (0, 0), (1000,), (0, 1)):
            for index in (0, 1):
                for name in ("lone", "drop-rule", "new-rule", "text-set"):
                    self.refuses(grammar, (name, index, path, ()))

    def test_a_graft_that_does_not_apply(self):
        grammar = one(seq(X, Y))
        for step in (("lone", 0, (), ()), ("lone", 0, (0,), ()), ("seq-eps", 0, (), (0,)), ("text-join", 0, (), ()),
                     ("text-join", 0, (), (1,)), ("text-join", 0, (), (0, 0)), ("alt-flat", 0, (), (0,)),
                     ("inline", 0, (), ())):
            self.refuses(grammar, step)

    def test_things_that_are_no_steps(self):
        for grammar in (one(seq(X)), one(seq(EPS)), one(seq(EPS, EPS)), (("a", seq(X)), ("b", seq(X)))):
            for thing in NO_STEPS:
                self.refuses(grammar, thing)

    def test_a_result_that_is_too_deep(self):
        deep = star(X)
        for _ in range(8):
            deep = opt(deep)
        place = (0,) * 8
        after = stepped(one(deep), ("star-step", 0, place, ()))
        self.assertTrue(is_grammar(after))
        self.assertEqual(expression_at(after[0][1], place), opt(seq(X, star(X))))
        self.refuses(one(opt(deep)), ("star-step", 0, (0,) + place, ()))
        self.makes((("a", opt(call("b"))), ("b", nested(11))), ("inline", 0, (0,), ()),
                   (("a", nested(12)), ("b", nested(11))))
        self.refuses((("a", opt(call("b"))), ("b", nested(12))), ("inline", 0, (0,), ()))

    def test_a_result_with_sixteen_and_seventeen_parts(self):
        self.makes(one(seq(*[X] * 14, seq(X, Y))), ("seq-flat", 0, (), (14,)), one(seq(*[X] * 15, Y)))
        self.refuses(one(seq(*[X] * 15, seq(X, Y))), ("seq-flat", 0, (), (15,)))

    def test_drop_rule(self):
        grammar = (("a", call("c")), ("b", call("c")), ("c", X), ("d", seq(X, opt(call("d")))))
        self.makes(grammar, ("drop-rule", 1, (), ()), (("a", call("c")), ("c", X), ("d", seq(X, opt(call("d"))))))
        self.makes(grammar, ("drop-rule", 3, (), ()), grammar[:3])
        self.makes((("a", X), ("b", Y)), ("drop-rule", 1, (), ()), one(X))

    def test_drop_rule_of_the_first_rule(self):
        self.refuses(one(X), ("drop-rule", 0, (), ()))
        self.refuses((("a", X), ("b", Y)), ("drop-rule", 0, (), ()))
        self.refuses((("z", X), ("b", Y)), ("drop-rule", 0, (), ()))

    def test_drop_rule_of_a_rule_that_is_called(self):
        grammar = (("a", seq(ANY, opt(no(call("b"))))), ("b", X), ("c", mark("m", seq(X, call("d")))), ("d", Y))
        self.refuses(grammar, ("drop-rule", 1, (), ()))
        self.refuses(grammar, ("drop-rule", 3, (), ()))
        self.makes(grammar, ("drop-rule", 2, (), ()), grammar[:2] + grammar[3:])
        circle = (("a", X), ("b", seq(X, call("c"))), ("c", opt(seq(X, call("b")))))
        self.refuses(circle, ("drop-rule", 1, (), ()))
        self.refuses(circle, ("drop-rule", 2, (), ()))

    def test_drop_rule_and_new_rule_take_nothing_else(self):
        grammar = (("a", X), ("b", seq(X)))
        for numbers in ((0,), (1,), (0, 0)):
            self.refuses(grammar, ("drop-rule", 1, (), numbers))
            self.refuses(grammar, ("new-rule", 1, (), numbers))
        self.refuses(grammar, ("drop-rule", 1, (0,), ()))

    def test_new_rule(self):
        grammar = (("a", seq(X, star(Y))), ("b", X))
        self.makes(grammar, ("new-rule", 0, (1, 0), ()), (("a", seq(X, star(call("aa")))), ("b", X), ("aa", Y)))
        self.makes(grammar, ("new-rule", 0, (0,), ()), (("a", seq(call("aa"), star(Y))), ("b", X), ("aa", X)))
        self.makes(grammar, ("new-rule", 0, (), ()), (("a", call("aa")), ("b", X), ("aa", seq(X, star(Y)))))
        self.makes(grammar, ("new-rule", 1, (), ()), (("a", seq(X, star(Y))), ("b", call("aa")), ("aa", X)))
        self.makes((("a", opt(seq(X, call("a")))),), ("new-rule", 0, (0,), ()),
                   (("a", opt(call("aa"))), ("aa", seq(X, call("a")))))

    def test_the_name_of_a_new_rule(self):
        letters = "abcdefghijklmnopqrstuvwxyz"
        taken = ["aa", "ab", "ac"]
        self.assertEqual(self.name_beside(["b"]), "aa")
        self.assertEqual(self.name_beside(["aa"]), "ab")
        self.assertEqual(self.name_beside(["ab"]), "aa")
        self.assertEqual(self.name_beside(taken), "ad")
        self.assertEqual(self.name_beside(taken[::-1]), "ad")
        self.assertEqual(self.name_beside(["aa", "ac", "ad"]), "ab")
        self.assertEqual(self.name_beside(["a", "aaa", "b", "ba"]), "aa")
        many = ["a" + letter for letter in letters]
        self.assertEqual(self.name_beside(many[:15]), "ap")
        # No grammar has so many rules, so the step does not apply; the names still have an order.
        self.refuses(tuple((name, X) for name in many), ("new-rule", 0, (), ()))

    def name_beside(self, names):
        """The name of a new rule beside rules with these names."""
        grammar = tuple((name, X) for name in names)
        after = stepped(grammar, ("new-rule", len(names) - 1, (), ()))
        self.assertEqual(after[:-1], grammar[:-1] + ((names[-1], call(after[-1][0])),))
        self.assertEqual(after[-1][1], X)
        return after[-1][0]

    def test_new_rule_in_a_grammar_of_sixteen_rules(self):
        grammar = tuple((name, X) for name in "abcdefghijklmnop")
        self.makes(grammar[:15], ("new-rule", 14, (), ()), grammar[:14] + (("o", call("aa")), ("aa", X)))
        self.refuses(grammar, ("new-rule", 15, (), ()))

    def test_a_result_that_calls_an_unknown_rule(self):
        grammar = (("a", alt(seq(X), EPS, call("z"))),)
        self.refuses(grammar, ("lone", 0, (0,), ()))
        self.refuses(grammar, ("inline", 0, (2,), ()))
        self.refuses(grammar, ("new-rule", 0, (2,), ()))
        self.refuses((("a", call("z")), ("b", X)), ("drop-rule", 1, (), ()))
        self.makes_of_any(grammar, ("alt-cut", 0, (), (1,)), one(alt(seq(X), EPS)))
        self.makes_of_any((("a", X), ("b", call("z"))), ("drop-rule", 1, (), ()), one(X))

    def test_a_result_that_might_not_end(self):
        # Every match of these ends, but what is known of them does not tell so.
        star_of_none = (("a", seq(seq(X), star(look(FAIL)))),)
        self.refuses(star_of_none, ("lone", 0, (0,), ()))
        self.refuses(star_of_none, ("star-step", 0, (1,), ()))
        self.refuses(star_of_none, ("new-rule", 0, (1,), ()))
        circle = (("a", alt(seq(X), EPS, call("a"))),)
        self.refuses(circle, ("lone", 0, (0,), ()))
        self.makes_of_any(circle, ("alt-cut", 0, (), (1,)), one(alt(seq(X), EPS)))
        self.refuses((("a", X), ("b", star(look(FAIL))), ("c", seq(X))), ("lone", 2, (), ()))
        self.makes_of_any((("a", X), ("b", star(look(FAIL)))), ("drop-rule", 1, (), ()), one(X))

    def makes_of_any(self, grammar, step, wanted):
        """Test a step of a grammar of which check does not say that each match ends."""
        self.assertEqual(stepped(grammar, step), wanted)

    def test_new_rule_and_inline_undo_each_other(self):
        for grammar in any_grammars(2, 60, 4):
            for index, (_, e) in enumerate(grammar):
                for path in all_paths(e):
                    there = stepped(grammar, ("new-rule", index, path, ()))
                    self.assertEqual(there[-1], ("aa", expression_at(e, path)))
                    self.assertEqual(matches_of(there), matches_of(grammar))
                    back = stepped(there, ("inline", index, path, ()))
                    self.assertEqual(back, grammar + there[-1:])
                    self.assertEqual(stepped(back, ("drop-rule", 3, (), ())), grammar)


class ReplayTest(unittest.TestCase):
    def refused(self, grammar, log, kind, field, value):
        with self.assertRaises(kind) as caught:
            replay(grammar, log)
        self.assertIs(type(caught.exception), kind)
        self.assertEqual(getattr(caught.exception, field), value)
        self.assertIsInstance(caught.exception, Refused)
        self.assertIsInstance(caught.exception, ValueError)

    def test_the_example_of_the_interface(self):
        self.assertEqual(
            replay((("a", ("alt", (("set", "x"), ("set", "a"), ("fail",)))),),
                   [("alt-fail", 0, (), (2,)), ("set-join", 0, (), (0,))]),
            (('a', ('alt', (('set', 'ax'),))),))

    def test_an_empty_log(self):
        grammar = (("a", call("b")), ("b", X))
        self.assertEqual(replay(grammar, []), grammar)

    def test_steps_are_done_in_order(self):
        grammar = (("a", seq(X, Y)),)
        log = [("new-rule", 0, (0,), ()), ("new-rule", 0, (1,), ()), ("text-set", 1, (), ()), ("inline", 0, (1,), ()),
               ("drop-rule", 2, (), ()), ("text-set", 0, (1,), ())]
        self.assertEqual(replay(grammar, log), (("a", seq(call("aa"), chars("y"))), ("aa", chars("x"))))
        again = [("inline", 0, (0,), ())]
        self.assertEqual(replay(grammar, log + again)[0], ("a", seq(chars("x"), chars("y"))))
        self.refused(grammar, again + log, BadStep, "number", 0)

    def test_bad_steps(self):
        grammar = one(seq(X, Y))
        good = ("text-set", 0, (0,), ())
        for bad in (("lone", 0, (), ()), ("text-set", 1, (), ()), ("text-set", 0, (2,), ()), ("drop-rule", 0, (), ()),
                    ("text-set", 0, (0,), (0,))) + NO_STEPS:
            self.refused(grammar, [bad], BadStep, "number", 0)
            self.refused(grammar, [good, bad], BadStep, "number", 1)
            self.refused(grammar, [good] * 6 + [bad, good], BadStep, "number", 6)

    def test_the_first_of_two_bad_steps(self):
        grammar = one(seq(X, Y))
        good = ("text-set", 0, (0,), ())
        self.refused(grammar, [good, ("lone", 0, (), ()), None], BadStep, "number", 1)
        self.refused(grammar, [good, None, good, ("lone", 0, (), ())], BadStep, "number", 1)
        self.refused(grammar, [None, None], BadStep, "number", 0)

    def test_a_step_that_applies_only_once(self):
        self.refused(one(seq(X)), [("lone", 0, (), ())] * 2, BadStep, "number", 1)

    def test_the_errors_of_check(self):
        for log in ([], [("lone", 0, (), ())], [None]):
            for thing in (None, [], (), "a", (("a", text("")),), [("a", EPS)], one(nested(13))):
                self.refused(thing, log, Invalid, "name", "grammar")
            self.refused(one(alt(seq(X), EPS, call("z"))), log, Unknown, "name", "z")
            self.refused((("b", X), ("a", alt(seq(X), EPS, call("a")))), log, Looping, "name", "a")

    def test_errors_of_check_stand_before_bad_steps_that_would_mend_them(self):
        self.refused(one(alt(X, EPS, call("z"))), [("alt-cut", 0, (), (1,))], Unknown, "name", "z")
        self.refused((("a", X), ("b", star(EPS))), [("drop-rule", 1, (), ())], Looping, "name", "b")

    def test_a_log_is_not_changed(self):
        log = [("text-set", 0, (0,), ()), ("text-set", 0, (1,), ())]
        kept = list(log)
        self.assertEqual(replay(one(seq(X, Y)), log), one(seq(chars("x"), chars("y"))))
        self.assertEqual(log, kept)


if __name__ == "__main__":
    unittest.main()
