"""The grafts: point 11, and graft/grafts.py."""

import unittest

from graft.grafts import apply_graft
from graft.logs import stepped
from graft.terms import CHARS
from samples import (ANY, EPS, FAIL, MANY, all_steps, alt, any_grammars, call, chars, look, mark,
                     matches_of, nested, no, opt, seq, star, text)

A, B, C, D = text("a"), text("b"), text("c"), text("d")
GRAMMAR = (("a", seq(ANY, call("b"))), ("b", opt(call("c"))), ("c", alt(text("xy"), chars("pq"))))
HEADS = {"seq-flat": ("seq",), "alt-flat": ("alt",), "lone": ("seq", "alt"), "seq-eps": ("seq",),
         "alt-fail": ("alt",), "seq-fail": ("seq",), "alt-cut": ("alt",), "alt-same": ("alt",), "alt-swap": ("alt",),
         "set-join": ("alt",), "text-join": ("seq",), "text-split": ("text",), "text-set": ("text", "set"),
         "opt-alt": ("opt", "alt"), "look-look": ("not", "and"), "opt-star": ("opt",), "star-step": ("star",),
         "factor": ("alt",), "spread": ("seq",), "look-same": ("seq",), "inline": ("call",)}

# For each graft an expression that it changes, with the numbers.
CHANGED = {
    "seq-flat": (seq(A, seq(B, C)), (1,)), "alt-flat": (alt(A, alt(B, C)), (1,)), "lone": (seq(A), ()),
    "seq-eps": (seq(A, EPS), (1,)), "alt-fail": (alt(A, FAIL), (1,)), "seq-fail": (seq(A, FAIL), (1,)),
    "alt-cut": (alt(A, EPS, B), (1,)), "alt-same": (alt(A, B, A), (0, 2)), "alt-swap": (alt(A, B), (0,)),
    "set-join": (alt(chars("a"), chars("b")), (0,)), "text-join": (seq(A, B), (0,)), "text-split": (text("ab"), (1,)),
    "text-set": (A, ()), "opt-alt": (opt(A), ()), "look-look": (no(no(A)), ()), "opt-star": (opt(star(A)), ()),
    "star-step": (star(A), ()), "factor": (alt(seq(A, B), seq(A, C)), (0,)), "spread": (seq(A, alt(B, C)), ()),
    "look-same": (seq(look(A), A), (0,)), "inline": (call("b"), ()),
}


class GraftsTest(unittest.TestCase):
    def makes(self, name, e, numbers, wanted):
        found = apply_graft(name, GRAMMAR, e, numbers)
        self.assertEqual(found, wanted, (name, e, numbers))
        self.assertIsInstance(found, tuple)

    def refuses(self, name, e, numbers):
        self.assertIsNone(apply_graft(name, GRAMMAR, e, numbers), (name, e, numbers))

    def refuses_places(self, name, e, but=()):
        """Test that a graft with one number applies at no other places."""
        for k in list(range(20)) + [1000, 10 ** 30]:
            if k not in but:
                self.refuses(name, e, (k,))

    def test_flat(self):
        for name, many, other in (("seq-flat", seq, alt), ("alt-flat", alt, seq)):
            self.makes(name, many(A, many(B, C), D), (1,), many(A, B, C, D))
            self.makes(name, many(many(A, B), C), (0,), many(A, B, C))
            self.makes(name, many(C, many(A, B)), (1,), many(C, A, B))
            self.makes(name, many(A, many(), B), (1,), many(A, B))
            self.makes(name, many(many()), (0,), many())
            self.makes(name, many(many(many(A))), (0,), many(many(A)))
            self.makes(name, many(many(A), many(B)), (1,), many(many(A), B))
            self.refuses_places(name, many(A, many(B, C), other(B), star(many(A))), (1,))
            self.refuses_places(name, many())

    def test_flat_with_sixteen_and_seventeen_parts(self):
        for name, many in (("seq-flat", seq), ("alt-flat", alt)):
            self.makes(name, many(*[A] * 14, many(B, C)), (14,), many(*[A] * 14, B, C))
            self.makes(name, many(*[A] * 7, many(*[B] * 8), C), (7,), many(*[A] * 7, *[B] * 8, C))
            self.refuses(name, many(*[A] * 8, many(*[B] * 8), C), (8,))
            self.refuses(name, many(*[A] * 15, many(B, C)), (15,))
            self.refuses(name, many(A, many(*[B] * 16)), (1,))
            self.makes(name, many(many(*[B] * 16)), (0,), many(*[B] * 16))
            self.makes(name, many(*[A] * 15, many()), (15,), many(*[A] * 15))
            self.makes(name, many(*[A] * 15, many(B)), (15,), many(*[A] * 15, B))

    def test_lone(self):
        for many in (seq, alt):
            self.makes("lone", many(A), (), A)
            self.makes("lone", many(many()), (), many())
            self.makes("lone", many(seq(A, B)), (), seq(A, B))
            self.refuses("lone", many(A, B), ())
            self.refuses("lone", many(EPS, EPS, EPS), ())
        self.makes("lone", seq(), (), ("eps",))
        self.makes("lone", alt(), (), ("fail",))

    def test_seq_eps(self):
        self.makes("seq-eps", seq(A, EPS, B), (1,), seq(A, B))
        self.makes("seq-eps", seq(EPS, EPS, B), (0,), seq(EPS, B))
        self.makes("seq-eps", seq(EPS, B), (0,), seq(B))
        self.makes("seq-eps", seq(B, EPS), (1,), seq(B))
        self.makes("seq-eps", seq(EPS), (0,), seq())
        self.refuses_places("seq-eps", seq(A, EPS, FAIL, seq(), opt(EPS)), (1,))

    def test_alt_fail(self):
        self.makes("alt-fail", alt(A, FAIL, B), (1,), alt(A, B))
        self.makes("alt-fail", alt(FAIL), (0,), alt())
        self.makes("alt-fail", alt(FAIL, A), (0,), alt(A))
        self.makes("alt-fail", alt(A, FAIL), (1,), alt(A))
        self.refuses_places("alt-fail", alt(A, FAIL, EPS, alt(), no(EPS)), (1,))

    def test_seq_fail(self):
        self.makes("seq-fail", seq(A, FAIL, B), (1,), ("fail",))
        self.makes("seq-fail", seq(FAIL), (0,), ("fail",))
        self.makes("seq-fail", seq(star(A), mark("m", B), FAIL), (2,), ("fail",))
        self.refuses_places("seq-fail", seq(A, FAIL, EPS, alt(), no(EPS)), (1,))

    def test_alt_cut(self):
        for never in (EPS, star(A), opt(FAIL), seq(), seq(EPS, opt(A)), alt(A, EPS), mark("m", EPS), look(star(A)),
                      no(FAIL)):
            self.makes("alt-cut", alt(A, never, B, C), (1,), alt(A, never))
            self.makes("alt-cut", alt(never, B), (0,), alt(never))
            self.makes("alt-cut", alt(never, never, B), (0,), alt(never))
            self.refuses_places("alt-cut", alt(A, never))
            self.refuses_places("alt-cut", alt(A, never, B), (1,))
        for maybe in (A, FAIL, ANY, call("b"), no(B), look(A), mark("m", A), seq(EPS, A), alt(), alt(A)):
            self.refuses_places("alt-cut", alt(maybe, B, maybe))

    def test_alt_same(self):
        e = alt(A, B, A, A, B)
        wanted = {(0, 2): alt(A, B, A, B), (0, 3): alt(A, B, A, B), (2, 3): alt(A, B, A, B), (1, 4): alt(A, B, A, A)}
        for i in range(7):
            for j in range(7):
                if (i, j) in wanted:
                    self.makes("alt-same", e, (i, j), wanted[i, j])
                else:
                    self.refuses("alt-same", e, (i, j))
        self.makes("alt-same", alt(seq(A, B), C, seq(A, B), D), (0, 2), alt(seq(A, B), C, D))
        self.refuses("alt-same", alt(seq(A, B), alt(A, B)), (0, 1))
        self.refuses("alt-same", alt(text("a"), chars("a")), (0, 1))
        self.refuses("alt-same", alt(A, A), (1, 0))
        self.refuses("alt-same", alt(A, A), (0, 0))

    def test_alt_swap(self):
        self.makes("alt-swap", alt(A, B), (0,), alt(B, A))
        self.makes("alt-swap", alt(C, A, B, D), (1,), alt(C, B, A, D))
        self.makes("alt-swap", alt(call("c"), text("yx"), D), (0,), alt(text("yx"), call("c"), D))
        self.makes("alt-swap", alt(FAIL, ANY), (0,), alt(ANY, FAIL))
        self.makes("alt-swap", alt(seq(opt(A), B), chars("cx")), (0,), alt(chars("cx"), seq(opt(A), B)))
        self.refuses_places("alt-swap", alt(A, B), (0,))
        self.refuses_places("alt-swap", alt(A))
        self.refuses_places("alt-swap", alt())

    def test_alt_swap_with_a_character_in_common(self):
        for e, f in ((A, A), (text("ab"), text("ac")), (ANY, A), (A, ANY), (chars("ab"), chars("bc")),
                     (seq(opt(A), B), A), (seq(opt(A), B), text("bb")), (call("c"), text("x")), (text("q"), call("c")),
                     (alt(C, mark("m", A)), A), (seq(star(ANY), A), B)):
            self.refuses("alt-swap", alt(e, f), (0,))
            self.refuses("alt-swap", alt(f, e), (0,))

    def test_alt_swap_with_a_part_that_may_be_empty(self):
        for e in (EPS, opt(B), star(B), no(B), look(B), seq(), call("b"), seq(opt(B), call("b")), mark("m", call("b"))):
            self.refuses("alt-swap", alt(e, A), (0,))
            self.refuses("alt-swap", alt(A, e), (0,))
            self.refuses("alt-swap", alt(e, e), (0,))

    def test_set_join(self):
        self.makes("set-join", alt(chars("ac"), chars("b")), (0,), alt(chars("abc")))
        self.makes("set-join", alt(A, chars("xz"), chars("xy"), B), (1,), alt(A, chars("xyz"), B))
        self.makes("set-join", alt(chars("a"), chars("a")), (0,), alt(chars("a")))
        self.makes("set-join", alt(chars(CHARS[50:]), chars(CHARS[:60])), (0,), alt(chars(CHARS)))
        e = alt(chars("a"), chars("b"), A, chars("c"), seq(chars("d")), chars("e"), no(chars("f")), chars("g"))
        self.refuses_places("set-join", e, (0,))

    def test_text_join(self):
        self.makes("text-join", seq(text("ab"), text("ba")), (0,), seq(text("abba")))
        self.makes("text-join", seq(A, B, C, D), (1,), seq(A, text("bc"), D))
        self.makes("text-join", seq(A, B, C, D), (2,), seq(A, B, text("cd")))
        self.refuses_places("text-join", seq(A, B, ANY, C, chars("d"), D, seq(A), B), (0,))

    def test_text_join_with_twenty_and_more_characters(self):
        for left in (1, 10, 19):
            right = 20 - left
            self.makes("text-join", seq(text("x" * left), text("y" * right)), (0,),
                       seq(text("x" * left + "y" * right)))
            self.refuses("text-join", seq(text("x" * left), text("y" * (right + 1))), (0,))
        self.refuses("text-join", seq(text("x" * 20), text("y" * 20)), (0,))

    def test_text_split(self):
        self.makes("text-split", text("abc"), (1,), seq(text("a"), text("bc")))
        self.makes("text-split", text("abc"), (2,), seq(text("ab"), text("c")))
        self.makes("text-split", text(CHARS[:20]), (19,), seq(text(CHARS[:19]), text(CHARS[19])))
        for n in (0, 3, 4, 100, 10 ** 30):
            self.refuses("text-split", text("abc"), (n,))
        self.refuses_places("text-split", A)

    def test_text_set(self):
        self.makes("text-set", text("a"), (), chars("a"))
        self.makes("text-set", chars("~"), (), text("~"))
        self.refuses("text-set", text("aa"), ())
        self.refuses("text-set", text("ab"), ())
        self.refuses("text-set", chars("ab"), ())

    def test_opt_alt(self):
        self.makes("opt-alt", opt(A), (), alt(A, EPS))
        self.makes("opt-alt", opt(alt(A, EPS)), (), alt(alt(A, EPS), EPS))
        self.makes("opt-alt", alt(A, EPS), (), opt(A))
        self.makes("opt-alt", alt(EPS, EPS), (), opt(EPS))
        for e in (alt(), alt(EPS), alt(EPS, A), alt(A, B), alt(A, seq()), alt(A, B, EPS), alt(A, EPS, EPS)):
            self.refuses("opt-alt", e, ())

    def test_look_look(self):
        for e in (A, EPS, no(A), look(A)):
            self.makes("look-look", no(no(e)), (), look(e))
            self.makes("look-look", look(look(e)), (), look(e))
            self.makes("look-look", no(look(e)), (), no(e))
            self.makes("look-look", look(no(e)), (), no(e))
        for e in (A, opt(no(A)), seq(look(A)), mark("m", no(A)), EPS):
            self.refuses("look-look", no(e), ())
            self.refuses("look-look", look(e), ())

    def test_opt_star(self):
        for never in (EPS, star(A), opt(FAIL), seq(), seq(EPS, opt(A)), alt(A, EPS), mark("m", EPS), look(star(A)),
                      no(FAIL)):
            self.makes("opt-star", opt(never), (), never)
        for maybe in (A, FAIL, ANY, call("b"), no(B), look(A), mark("m", A), seq(EPS, A), alt(), alt(A)):
            self.refuses("opt-star", opt(maybe), ())

    def test_star_step(self):
        self.makes("star-step", star(A), (), opt(seq(A, star(A))))
        self.makes("star-step", star(seq(A, B)), (), opt(seq(seq(A, B), star(seq(A, B)))))

    def test_factor(self):
        self.makes("factor", alt(seq(A, B, C), seq(A, D)), (0,), alt(seq(A, alt(seq(B, C), seq(D)))))
        self.makes("factor", alt(C, seq(A), seq(A, D), B), (1,), alt(C, seq(A, alt(seq(), seq(D))), B))
        self.makes("factor", alt(seq(A), seq(A)), (0,), alt(seq(A, alt(seq(), seq()))))
        self.makes("factor", alt(seq(B), seq(A, B), seq(A, B)), (1,), alt(seq(B), seq(A, alt(seq(B), seq(B)))))
        full = (A,) * 16
        self.makes("factor", alt(*[B] * 14, seq(*full), seq(*full)), (14,),
                   alt(*[B] * 14, seq(A, alt(seq(*full[1:]), seq(*full[1:])))))
        self.refuses_places("factor", alt(seq(A), seq(A), A, seq(B), seq(C), seq(), seq(), alt(A), alt(A)), (0,))
        self.refuses_places("factor", alt(seq(text("ab")), seq(text("a"), text("b"))))
        self.refuses_places("factor", alt(seq(A, B), seq(B, A)))
        self.refuses_places("factor", alt(seq(), seq(A)))
        self.refuses_places("factor", alt(seq(A), seq()))
        self.refuses_places("factor", alt())

    def test_spread(self):
        self.makes("spread", seq(A, B, alt(C, D)), (), alt(seq(A, B, C), seq(A, B, D)))
        self.makes("spread", seq(alt(C, D)), (), alt(seq(C), seq(D)))
        self.makes("spread", seq(alt(A, B), alt(seq(), D)), (), alt(seq(alt(A, B), seq()), seq(alt(A, B), D)))
        self.makes("spread", seq(A, alt()), (), alt())
        self.makes("spread", seq(alt()), (), alt())
        self.makes("spread", seq(*[A] * 15, alt(*[B] * 16)), (), alt(*[seq(*[A] * 15, B)] * 16))
        for e in (seq(), seq(A), seq(alt(A, B), C), seq(A, seq(B)), seq(A, opt(alt(A, B)))):
            self.refuses("spread", e, ())

    def test_look_same(self):
        self.makes("look-same", seq(look(A), A), (0,), seq(A))
        self.makes("look-same", seq(B, look(seq(A, C)), seq(A, C), D), (1,), seq(B, seq(A, C), D))
        self.makes("look-same", seq(look(look(A)), look(A), A), (0,), seq(look(A), A))
        self.refuses_places("look-same", seq(no(A), A, look(A), B, look(look(B)), B, look(C), look(C), mark("m", C)))
        self.refuses_places("look-same", seq(A, look(A)))
        self.refuses_places("look-same", seq(look(A), seq(A)))
        self.refuses_places("look-same", seq())

    def test_inline(self):
        for name, e in GRAMMAR:
            self.makes("inline", call(name), (), e)

    def test_inline_of_an_unknown_rule_does_not_change(self):
        for name in ("d", "aa", "zzzz"):
            self.makes("inline", call(name), (), call(name))

    def test_other_heads(self):
        kinds = (EPS, FAIL, ANY, chars("a"), text("ab"), seq(A), alt(A, EPS), star(A), opt(EPS), no(no(A)),
                 look(look(A)), call("b"), mark("m", A), mark("m", seq(A)))
        for name in MANY:
            for e in kinds:
                if e[0] not in HEADS[name]:
                    for numbers in ((), (0,), (1,), (0, 1)):
                        self.refuses(name, e, numbers)

    def test_wrong_numbers(self):
        for name, (e, numbers) in CHANGED.items():
            self.assertIsNotNone(apply_graft(name, GRAMMAR, e, numbers), name)
            self.assertEqual(len(numbers), MANY[name])
            for wrong in (numbers + (0,), numbers + (1,), numbers + numbers + (0,), numbers + (7, 7)):
                self.refuses(name, e, wrong)
            for k in range(len(numbers)):
                self.refuses(name, e, numbers[:k])
                for wrong in (-1, -2, -3, 17, 1000, 10 ** 40):
                    self.refuses(name, e, numbers[:k] + (wrong,) + numbers[k + 1:])

    def test_true_and_false_are_no_numbers(self):
        for name, (e, numbers) in CHANGED.items():
            if numbers:
                self.refuses(name, e, tuple({0: False, 1: True}.get(number, number) for number in numbers))

    def test_depth_does_not_matter(self):
        self.makes("star-step", star(nested(11)), (), opt(seq(nested(11), star(nested(11)))))
        self.makes("opt-alt", opt(nested(11)), (), alt(nested(11), EPS))

    def test_somewhat_beyond_the_limits(self):
        self.makes("seq-eps", seq(*[A] * 16, EPS), (16,), seq(*[A] * 16))
        self.refuses("seq-eps", seq(*[A] * 17, EPS), (17,))
        self.makes("alt-cut", alt(EPS, *[A] * 16), (0,), alt(EPS))
        self.refuses("alt-swap", alt(*[A, B] * 9), (0,))
        self.refuses("spread", seq(A, alt(*[B] * 17)), ())
        self.refuses("spread", seq(*[A] * 16, alt(B)), ())
        self.refuses("factor", alt(seq(*[A] * 18), seq(A)), (0,))
        self.refuses("lone", seq(seq(*[A] * 17)), ())
        self.makes("text-split", text("x" * 25), (22,), seq(text("x" * 22), text("xxx")))
        self.makes("look-look", no(look(nested(14))), (), no(nested(14)))

    def test_the_grammar_is_not_changed(self):
        before = repr(GRAMMAR)
        for name, (e, numbers) in CHANGED.items():
            shown = repr(e)
            apply_graft(name, GRAMMAR, e, numbers)
            self.assertEqual(repr(e), shown)
        self.assertEqual(repr(GRAMMAR), before)


class SameMatchesTest(unittest.TestCase):
    def test_grafts_keep_all_matches(self):
        applied = dict.fromkeys(MANY, 0)
        for grammar in any_grammars(1, 500, 4):
            before = matches_of(grammar)
            wanted = [name for name in MANY if applied[name] < 100]
            for step in all_steps(grammar, wanted, 4):
                after = stepped(grammar, step)
                if after is not None:
                    applied[step[0]] += 1
                    self.assertEqual(matches_of(after), before, (grammar, step))
        for name, many in applied.items():
            self.assertGreater(many, 20, name)


if __name__ == "__main__":
    unittest.main()
