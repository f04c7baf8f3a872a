"""The texts of grammars: point 15, and graft/texts.py."""

import unittest

from graft.errors import Malformed, Refused
from graft.terms import CHARS, is_grammar
from graft.texts import parse, show
from samples import (ANY, EPS, FAIL, alt, any_grammars, call, chars, look, mark, nested, no, one, opt, seq,
                     small_grammars, star, text)

X = text("x")


def deep_text(depth, core="eps"):
    """A text whose innermost expression stands at this depth."""
    return "a = " + "opt(" * (depth - 1) + core + ")" * (depth - 1) + ";"


class ReadingTest(unittest.TestCase):
    def reads(self, source, wanted):
        self.assertEqual(parse(source), wanted, source)
        self.assertTrue(is_grammar(wanted))

    def test_the_example_of_the_interface(self):
        self.reads('a = alt(text "x", mark b(@a)); ',
                   (('a', ('alt', (('text', 'x'), ('mark', 'b', ('call', 'a'))))),))

    def test_each_kind_of_expression(self):
        for source, e in (("eps", EPS), ("fail", FAIL), ("any", ANY), ('set "az"', chars("az")),
                          ('text "za"', text("za")), ("@b", call("b")), ("seq()", seq()), ("alt()", alt()),
                          ("seq(any)", seq(ANY)), ("alt(any)", alt(ANY)), ("seq(any, eps)", seq(ANY, EPS)),
                          ("alt(any, eps, fail)", alt(ANY, EPS, FAIL)), ("star(any)", star(ANY)),
                          ("opt(any)", opt(ANY)), ("not(any)", no(ANY)), ("and(any)", look(ANY)),
                          ("mark m(any)", mark("m", ANY))):
            self.reads("a = " + source + ";", one(e))
            self.reads("a=seq(eps," + source + ",any);", one(seq(EPS, e, ANY)))
            self.reads("a=mark b(" + source + ");b=" + source + ";", (("a", mark("b", e)), ("b", e)))

    def test_several_rules(self):
        self.reads("b = @a; a = any;", (("b", call("a")), ("a", ANY)))
        self.reads("".join(name + "=eps;" for name in "ponmlkjihgfedcba"),
                   tuple((name, EPS) for name in "ponmlkjihgfedcba"))

    def test_words_that_are_heads_may_be_names(self):
        self.reads("eps = eps;", (("eps", EPS),))
        self.reads("call = @call;", (("call", call("call")),))
        self.reads("seq = mark mark(@seq);", (("seq", mark("mark", call("seq"))),))
        self.reads("text = mark set(@not);", (("text", mark("set", call("not"))),))

    def test_spaces_and_newlines(self):
        wanted = (("a", alt(X, mark("b", call("a")), chars("yz"))), ("c", EPS))
        self.reads('a=alt(text"x",mark b(@a),set"yz");c=eps;', wanted)
        tokens = ["a", "=", "alt", "(", "text", '"x"', ",", "mark", "b", "(", "@", "a", ")", ",", "set", '"yz"', ")",
                  ";", "c", "=", "eps", ";"]
        for between in (" ", "\n", "  ", " \n", "\n\n \n"):
            self.reads(between.join(tokens), wanted)
            self.reads(between + between.join(tokens) + between, wanted)

    def test_strings(self):
        for source, s in (('"a"', "a"), ('" "', " "), ('"\\""', '"'), ('"\\\\"', "\\"), ('"\\\\\\""', '\\"'),
                          ('"\\"\\\\"', '"\\'), ('"a b"', "a b"), ('"(),;=@"', "(),;=@"), ('"\\\\n"', "\\n")):
            self.reads("a = text " + source + ";", one(text(s)))
        self.reads('a = set "\\"\\\\";', one(chars('"\\')))
        self.reads('a = set "' + CHARS.replace("\\", "\\\\").replace('"', '\\"') + '";', one(chars(CHARS)))
        self.reads('a = text "' + "x" * 20 + '";', one(text("x" * 20)))

    def test_a_text_of_8000_characters(self):
        self.reads("a=eps;" + " " * 7994, one(EPS))
        self.reads("\n" * 7994 + "a=eps;", one(EPS))

    def test_calls_of_unknown_rules_and_grammars_that_might_not_end(self):
        self.reads("a = @b;", one(call("b")))
        self.reads("a = star(eps);", one(star(EPS)))
        self.reads("a = @a;", one(call("a")))

    def test_depth_twelve(self):
        self.reads(deep_text(12), one(nested(12)))
        self.reads(deep_text(12, "seq()"), one(opt_of(11, seq())))
        self.reads(deep_text(12, '@b'), one(opt_of(11, call("b"))))

    def test_sixteen_parts(self):
        self.reads("a = seq(" + ",".join(["any"] * 16) + ");", one(seq(*[ANY] * 16)))
        self.reads("a = alt(" + ",".join(["any"] * 16) + ");", one(alt(*[ANY] * 16)))

    def test_depth_twelve_in_each_kind_of_expression(self):
        for head, around in (("star", star), ("opt", opt), ("not", no), ("and", look), ("seq", seq), ("alt", alt),
                             ("mark m", lambda e: mark("m", e))):
            e = EPS
            for _ in range(11):
                e = around(e)
            start = "a = " + (head + "(") * 11
            self.reads(start + "eps" + ")" * 11 + ";", one(e))
            with self.assertRaises(Malformed) as caught:
                parse(start + head + "(eps" + ")" * 12 + ";")
            self.assertEqual(caught.exception.at, len(start + head + "("))

    def test_names_of_twelve_letters(self):
        for name in ("abcdefghijkl", "opqrstuvwxyz", "z" * 12):
            self.reads(name + "=mark " + name + "(@" + name + ");", ((name, mark(name, call(name))),))


def opt_of(many, e):
    for _ in range(many):
        e = opt(e)
    return e


class MalformedTest(unittest.TestCase):
    def wrong(self, source, at):
        with self.assertRaises(Malformed) as caught:
            parse(source)
        self.assertEqual(caught.exception.at, at, source[:200])
        self.assertIsInstance(caught.exception, Refused)
        self.assertIsInstance(caught.exception, ValueError)

    def test_a_text_of_8001_and_more_characters(self):
        for source in ("a=eps;" + " " * 7995, "\n" * 8001, "!" * 8001, "a=eps;" * 5000, '"' * 9000,
                       "a=" + "x" * 7999, "a=eps;" + "b" * 7995):
            self.wrong(source, 8000)
        self.wrong("!" * 8000, 0)
        self.wrong(" " * 8000, 8000)
        self.wrong(" " * 7999 + "!", 7999)

    def test_characters_that_start_no_token(self):
        for sign in "!#$%&'*+-./0123456789:<>?ABCXYZ[\\]^_`{|}~\t\r\x00\x0b\x0c\x7f\xa0\xe4\u03b1\u2028\u3000":
            self.wrong(sign, 0)
            self.wrong("a = eps;" + sign, 8)
            self.wrong("a = e" + sign + "ps;", 5)
            self.wrong("a = " + sign + "eps;", 4)
            self.wrong("\n \n" + sign + ' "', 3)

    def test_such_a_character_begins_no_string(self):
        for sign in "'!7A\\%\t":
            self.wrong("a = text " + sign + 'x";', 9)
            self.wrong("a = text " + sign + "x" + sign + '; b = text "y";', 9)

    def test_such_a_character_stands_before_all_that_does_not_fit(self):
        self.wrong("= = ( eps !", 10)
        self.wrong("a = eps eps ; 7 !", 14)
        self.wrong(deep_text(13) + "?", len(deep_text(13)))
        self.wrong('a = text ""; b?', 14)

    def test_strings_without_an_end(self):
        self.wrong('"', 0)
        self.wrong('a = text "', 9)
        self.wrong('a = text "x;', 9)
        self.wrong('a = text "x\\"', 9)
        self.wrong('a = text "x\\', 9)
        self.wrong('a = text "x\\\\', 9)
        self.wrong('a = text "x"";', 12)
        self.wrong('a = seq(text "x", text "y);', 23)

    def test_backslashes_in_the_wrong_place(self):
        for inside in ("\\n", "\\x", "\\ ", "ab\\cd", "\\\\\\a", "\\\n", "\\\xe4"):
            self.wrong('a = text "' + inside + '";', 9)
            self.wrong('= text "' + inside + '" ? "', 7)

    def test_strings_with_what_is_no_character(self):
        for sign in "%\n\t\r\x00\x1f\x7f\x80\xe4\u03b1\U0001f600":
            self.wrong('a = text "' + sign + '";', 9)
            self.wrong('a = text "x' + sign + 'y";', 9)
            self.wrong('a = text "x' + sign, 9)

    def test_the_first_of_two_wrong_tokens(self):
        self.wrong('a = ! text "', 4)
        self.wrong('a = text "% !', 9)
        self.wrong('a = text "x" "%" 7', 13)

    def test_a_text_that_ends_too_early(self):
        tokens = ["a", "=", "alt", "(", "text", '"x"', ",", "mark", "b", "(", "@", "a", ")", ",", "not", "(", "eps",
                  ")", ")", ";", "b", "=", "seq", "(", ")", ";"]
        self.assertTrue(is_grammar(parse(" ".join(tokens))))
        for k in range(len(tokens)):
            if k != 20:
                for after in ("", " ", "\n\n "):
                    source = " ".join(tokens[:k]) + after
                    self.wrong(source, len(source))

    def test_a_token_that_does_not_fit(self):
        for source, at in (
                ("=", 0), (" ;", 1), ("(a", 0), ('"a"', 0), ("@a", 0), ("a a", 2), ("a;", 1), ("a eps;", 2),
                ("a = ;", 4), ("a = =", 4), ("a == eps;", 3), ("a = (eps);", 4), ('a = "x";', 4), ("a = )", 4),
                ("a = eps", 7), ("a = eps)", 7), ("a = eps,", 7), ("a = eps eps;", 8), ("a = eps();", 7),
                ("a = eps = eps;", 8), ("a = eps;;", 8), ("a = eps; = eps;", 9), ("a = eps; (", 9),
                ("a = any();", 7), ("a = fail any;", 9), ("a = set;", 7), ("a = set x;", 8), ('a = set("x");', 7),
                ('a = set "x" "y";', 12), ("a = text;", 8), ("a = text @a;", 9), ("a = text text;", 9),
                ("a = @;", 5), ("a = @ @a;", 6), ('a = @"b";', 5), ("a = @(b);", 5), ("a = @b(eps);", 6),
                ("a = seq;", 7), ("a = seq eps;", 8), ("a = seq(;", 8), ("a = seq(,);", 8), ("a = seq(eps;", 11),
                ("a = seq(eps,);", 12), ("a = seq(eps,,eps);", 12), ("a = seq(eps eps);", 12), ("a = seq(eps));", 12),
                ("a = seq(= ", 8), ('a = alt("x");', 8), ("a = alt(alt(eps,);", 16), ("a = seq();)", 10),
                ("a = star;", 8), ("a = star();", 9), ("a = star eps;", 9), ("a = star(eps, eps);", 12),
                ("a = opt();", 8), ("a = not();", 8), ("a = and();", 8), ("a = and(eps,);", 11), ("a = not(eps;", 11),
                ("a = mark;", 8), ("a = mark(eps);", 8), ("a = mark b;", 10), ("a = mark b();", 11),
                ("a = mark b eps;", 11), ("a = mark b c(eps);", 11), ('a = mark "b"(eps);', 9),
                ("a = mark @b(eps);", 9), ("a = mark b(eps, eps);", 14), ("a = mark b(c, eps);", 11)):
            self.wrong(source, at)

    def test_words_that_begin_no_expression(self):
        for word in ("a", "b", "call", "e", "ep", "epsi", "epseps", "rule", "seqs", "marks", "x" * 13):
            self.wrong("a = " + word + ";", 4)
            self.wrong("a = " + word + "(eps);", 4)
            self.wrong('a = seq(eps, ' + word + ' "x");', 13)
            self.wrong("a = " + word, 4)
            self.wrong("a = seq(" + word, 8)

    def test_a_word_is_the_longest_run_of_letters(self):
        self.wrong('a = markb(eps);', 4)
        self.wrong("a = notany;", 4)

    def test_depth_thirteen(self):
        before = len("a = " + "opt(" * 12)
        for core in ("eps", "fail", "opt(eps)", 'text "x"', "@b", "seq()", "mark b(eps)", "opt(" * 50 + ")" * 50):
            self.wrong(deep_text(13, core), before)
        self.wrong(deep_text(13, "\n eps"), before + 2)
        self.wrong(deep_text(13) + " =", before)
        self.wrong(deep_text(12, "seq(eps)"), len("a = " + "opt(" * 11 + "seq("))
        self.wrong(deep_text(12, "alt( @b, @c)"), len("a = " + "opt(" * 11 + "alt( "))
        self.wrong(deep_text(12, "mark m(any)"), len("a = " + "opt(" * 11 + "mark m("))
        start = "a = eps; b = seq(eps, " + "not(" * 11
        self.wrong(start + "eps, eps" + ")" * 12 + ";", len(start))
        for many in (12, 20, 1900):
            self.wrong("a = " + "opt(" * many, before)
            self.wrong("a = " + "seq(" * many, before)

    def test_the_first_of_depth_and_what_does_not_fit(self):
        self.wrong("a = seq(eps eps, " + deep_text(13)[4:], 12)
        self.wrong("a = " + "opt(" * 12 + ")", len("a = " + "opt(" * 12))
        self.wrong("a = " + "opt(" * 12, len("a = " + "opt(" * 12))
        self.wrong("a = " + "opt(" * 11 + "eps, eps" + ")" * 11 + ";", len("a = " + "opt(" * 11 + "eps"))

    def test_a_text_that_fits_but_is_no_grammar(self):
        names = "abcdefghijklmnopq"
        for source in (
                'a = text "";', 'a = set "";', 'a = set "ba";', 'a = set "aa";', 'a = text "' + "x" * 21 + '";',
                "a = seq(" + ",".join(["eps"] * 17) + ");", "a = alt(" + ",".join(["eps"] * 17) + ");",
                "a = eps; a = eps;", "a = eps; b = any; a = any;", "m" * 13 + " = eps;", "a = @" + "m" * 13 + ";",
                "a = mark " + "m" * 13 + "(eps);", "".join(name + "=eps;" for name in names)):
            for after in ("", "  ", "\n"):
                self.wrong(source + after, len(source + after))
        self.wrong('a = text ""; b = eps eps;', 21)

    def test_nothing_is_no_grammar(self):
        self.wrong("", 0)
        self.wrong("  \n", 3)


class ShowTest(unittest.TestCase):
    def returns(self, grammar):
        shown = show(grammar)
        self.assertIsInstance(shown, str)
        self.assertEqual(parse(shown), grammar, shown)

    def test_each_kind_of_expression(self):
        for e in (EPS, FAIL, ANY, chars("az"), text("za"), call("b"), seq(), alt(), seq(ANY), alt(ANY), seq(ANY, EPS),
                  alt(ANY, EPS, FAIL), star(ANY), opt(ANY), no(ANY), look(ANY), mark("m", ANY), nested(12),
                  seq(*[ANY] * 16), mark("mark", mark("eps", seq(seq(), alt(alt()))))):
            self.returns(one(e))
            self.returns((("b", EPS), ("eps", e), ("a", seq())))

    def test_strings(self):
        for sign in CHARS:
            for s in (sign, sign * 2, "a" + sign, sign + "b", "\\" + sign, sign + '"', '"' + sign + "\\"):
                self.returns(one(text(s)))
            self.returns(one(chars(sign)))
        self.returns(one(chars(CHARS)))

    def test_many_grammars(self):
        seen = {}
        for grammar in list(any_grammars(5, 200, 6)) + list(small_grammars()):
            self.returns(grammar)
            self.assertEqual(seen.setdefault(show(grammar), grammar), grammar)

    def test_equal_grammars_have_equal_texts(self):
        for grammar in any_grammars(6, 50, 5):
            again = parse("\n" + show(grammar).replace(";", " ;\n").replace(",", " , "))
            self.assertEqual(again, grammar)
            self.assertEqual(show(again), show(grammar))

    def test_a_grammar_whose_shortest_text_has_8000_characters(self):
        row = "seq(" + ",".join(['text"' + "x" * 20 + '"'] * 16) + ")"
        source = "a=alt(" + ",".join([row] * 16) + ");b=alt(" + ",".join([row] * 2) + ");c=seq(@b,@c,"
        source += ",".join(['text"' + "y" * k + '"' for k in (20, 20, 20, 19)]) + ");"
        self.assertEqual(len(source), 8000)
        self.assertEqual(show(parse(source)), source)

    def test_the_shortest_text(self):
        source = 'a=alt(text"x",mark b(@a),set"yz",seq(eps,not(and(star(opt(any))))),fail);b=alt();'
        self.assertEqual(show(parse(source.replace(",", " , "))), source)

    def test_somewhat_beyond_the_limits(self):
        self.assertIsInstance(show(one(nested(14))), str)
        self.assertIsInstance(show(tuple(("a" * k, seq(*[EPS] * 17)) for k in range(1, 18))), str)


if __name__ == "__main__":
    unittest.main()
