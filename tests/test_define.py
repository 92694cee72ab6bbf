"""Promise 1: begin and define."""

import unittest

from helper import begin, define, last, normal, sized, success, told

SIXTEEN = [define("n" + str(k), "\\x.x") for k in range(16)]


class Begin(unittest.TestCase):
    def test_nothing_is_named(self):
        self.assertEqual(
            told(define("i", "\\x.x"), begin(), normal("i a"), define("j", "i")),
            [[0], [0], success(0, "i a"), [-3]])

    def test_sixteen_names_more(self):
        self.assertEqual(told(*SIXTEEN, begin(), *SIXTEEN), [[0]] * 33)


class Define(unittest.TestCase):
    def test_name_stands_for_its_term(self):
        self.assertEqual(told(define("i", "\\x.x"), normal("i a")), [[0], success(1, "a")])

    def test_term_uses_a_defined_name(self):
        self.assertEqual(last(define("k", "\\x.\\y.x"), define("s", "k k"), normal("s a b c")), success(4, "b"))

    def test_name_defined_anew(self):
        self.assertEqual(
            told(define("f", "\\x.x"), define("f", "\\x.\\y.x"), normal("f a")), [[0], [0], success(1, "\\b.a")])

    def test_terms_defined_before_keep_what_they_were(self):
        calls = [define("f", "\\x.x"), define("g", "\\y.f y"), define("f", "\\x.\\y.x"), normal("g a")]
        self.assertEqual(last(*calls), success(2, "a"))

    def test_name_defined_anew_by_itself(self):
        calls = [define("f", "\\x.\\y.x"), define("f", "f f"), normal("f a b c")]
        self.assertEqual(last(*calls), success(4, "b"))

    def test_a_functions_name_is_not_the_defined_one(self):
        self.assertEqual(last(define("f", "\\x.\\y.x"), define("g", "\\f.f"), normal("g a")), success(1, "a"))
        self.assertEqual(last(define("f", "\\x.\\y.x"), normal("\\f.f (\\g.f)")), success(0, "\\a.a \\b.a"))

    def test_a_function_of_the_same_name_takes_nothing_of_a_defined_term(self):
        self.assertEqual(last(define("k", "\\x.\\y.x"), normal("\\x.\\y.k y x")), success(2, "\\a.\\b.b"))

    def test_a_term_with_steps_to_make_is_not_worked_out(self):
        self.assertEqual(last(define("o", "(\\x.x x) (\\x.x x)")), [0])
        self.assertEqual(last(define("o", "(\\x.x x) (\\x.x x)"), normal("(\\x.a) o")), success(1, "a"))


class Refusals(unittest.TestCase):
    def test_length_of_the_name(self):
        self.assertEqual(last(define("", "\\x.x")), [-1])
        self.assertEqual(last(define("a", "\\x.x")), [0])
        self.assertEqual(last(define("abcdefgh", "\\x.x"), normal("abcdefgh a")), success(1, "a"))
        self.assertEqual(last(define("abcdefghi", "\\x.x")), [-1])
        self.assertEqual(last(define("a" * 20, "\\x.x")), [-1])

    def test_signs_of_the_name(self):
        for name in ("1", "1a", "A", "aB", "a_", "a b", " a", "a ", "a.", "\\a", "(a)", "\0", "a\xe9", "{", "`", "a/", "a:"):
            self.assertEqual(last(define(name, "\\x.x")), [-1], name)
        for name in ("a", "z", "a0", "z9", "a1b2", "a0000000"):
            self.assertEqual(last(define(name, "\\x.x"), normal(name + " b")), success(1, "b"), name)

    def test_length_of_the_text(self):
        self.assertEqual(last(define("i", "\\x.x" + " " * 2044)), [0])
        self.assertEqual(last(define("i", "\\x.x" + " " * 2045)), [-1])

    def test_no_term(self):
        for text in ("", " ", "\\x.", "(\\x.x", "\\x.x)", "\\x.X"):
            self.assertEqual(last(define("i", text)), [-2], text)

    def test_free_names(self):
        for text in ("x", "\\x.y", "(\\x.x) x", "\\x.x i", "i"):
            self.assertEqual(last(define("i", text)), [-3], text)
        self.assertEqual(last(define("i", "\\x.x"), define("j", "\\x.i x y")), [-3])

    def test_size(self):
        self.assertEqual(last(define("i", sized(1024))), [0])
        self.assertEqual(last(define("i", sized(1025))), [-5])
        # 100 functions, 462 names, 461 applications.
        text = "\\x." * 100 + " ".join(["x"] * 462)
        self.assertEqual(last(define("i", "\\y." + text)), [0])
        self.assertEqual(last(define("i", "\\y.\\y." + text)), [-5])

    def test_a_defined_name_has_the_size_of_its_term(self):
        big = [define("a", sized(512)), define("b", sized(511)), define("c", sized(1024))]
        self.assertEqual(last(*big, define("d", "a b")), [0])
        self.assertEqual(last(*big, define("d", "a a")), [-5])
        self.assertEqual(last(*big, define("d", "c")), [0])
        self.assertEqual(last(*big, define("d", "\\x.c")), [-5])

    def test_sixteen_names(self):
        self.assertEqual(told(*SIXTEEN), [[0]] * 16)
        self.assertEqual(last(*SIXTEEN, define("m", "\\x.x")), [-7])
        self.assertEqual(last(*SIXTEEN, define("n15", "\\x.\\y.x")), [0])
        self.assertEqual(last(*SIXTEEN, define("n0", "n0 n1"), define("m", "n0")), [-7])

    def test_a_name_defined_anew_counts_once(self):
        again = [define("n0", "\\x.x")] * 20
        self.assertEqual(told(*again, *SIXTEEN), [[0]] * 36)

    def test_a_refusal_changes_nothing(self):
        refused = [define("f", text) for text in ("(", "f y", sized(1025), "\\x.x" + " " * 2045)]
        answered = told(define("f", "\\x.\\y.x"), *refused, normal("f a"))
        self.assertEqual(answered, [[0], [-2], [-3], [-5], [-1], success(1, "\\b.a")])
        answered = told(*SIXTEEN, define("m", "\\x.x"), normal("m a"), define("n3", "\\x.\\y.x"), normal("n3 a"))
        self.assertEqual(answered[16:], [[-7], success(0, "m a"), [0], success(1, "\\b.a")])


class WhichIsToldFirst(unittest.TestCase):
    def test_wrong_name_before_no_term(self):
        self.assertEqual(last(define("1", "(")), [-1])
        self.assertEqual(last(define("", "")), [-1])

    def test_long_text_before_no_term(self):
        self.assertEqual(last(define("a", "(" * 2049)), [-1])

    def test_no_term_before_free_name(self):
        self.assertEqual(last(define("a", "x (")), [-2])

    def test_free_name_before_size(self):
        self.assertEqual(last(define("a", sized(1025) + " z")), [-3])

    def test_size_before_sixteen_names(self):
        self.assertEqual(last(*SIXTEEN, define("m", sized(1025))), [-5])

    def test_all_others_before_sixteen_names(self):
        self.assertEqual(last(*SIXTEEN, define("M", "\\x.x")), [-1])
        self.assertEqual(last(*SIXTEEN, define("m", "\\x.")), [-2])
        self.assertEqual(last(*SIXTEEN, define("m", "m")), [-3])


if __name__ == "__main__":
    unittest.main()
