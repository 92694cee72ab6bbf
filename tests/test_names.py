"""Promise 5: names."""

import unittest

from helper import PLENTY, begin, define, last, listed, names, sized, told


class Names(unittest.TestCase):
    def has(self, text, answer, *before):
        self.assertEqual(last(*before, names(text)), listed(answer), text)

    def test_none(self):
        self.assertEqual(last(names("\\x.x")), [0])
        self.has("\\x.\\y.x y", "")
        self.has("(\\x.x x) (\\x.x x)", "")

    def test_one(self):
        self.has("a", "a")
        self.has("abcdefgh", "abcdefgh")
        self.has("\\x.y", "y")
        self.has("((a))", "a")

    def test_several(self):
        self.has("a b", "a b")
        self.has("f x1 yy", "f x1 yy")
        self.has("f(\\x.g x(h))k", "f g h k")

    def test_each_once(self):
        self.has("a a", "a")
        self.has("a b a b b a", "a b")
        self.has("\\x.a (\\y.a x) a", "a")

    def test_in_the_order_in_which_they_come_first(self):
        self.has("c a b a c", "c a b")
        self.has("z (y (x w)) v", "z y x w v")
        self.has("(b a) (a c)", "b a c")
        self.has("z9 a z a1 a0", "z9 a z a1 a0")

    def test_one_space_between(self):
        self.has("  a\t\nb(  c )  ", "a b c")
        self.has("a(b)c", "a b c")

    def test_names_that_begin_alike_are_not_one(self):
        self.has("a ab a1 aa b", "a ab a1 aa b")

    def test_those_that_belong_to_a_function_are_left_out(self):
        self.has("\\x.x y", "y")
        self.has("\\x.\\y.x y z", "z")
        self.has("f (\\x.x) (\\g.g h)", "f h")

    def test_free_at_one_place_and_a_functions_at_another(self):
        self.has("(\\x.x) x", "x")
        self.has("x (\\x.x)", "x")
        self.has("\\y.x y (\\x.x) z", "x z")
        self.has("(\\x.x) y \\y.x", "y x")
        self.has("f (\\x.\\x.x) x", "f x")
        self.has("\\x.f (\\x.x) x", "f")

    def test_it_comes_first_where_it_is_free(self):
        self.has("(\\y.y) x y", "x y")
        self.has("(\\b.a b) b a", "a b")

    def test_a_functions_name_alone_is_none(self):
        self.has("\\x.a", "a")
        self.has("f \\g.\\h.a", "f a")

    def test_no_steps_are_made(self):
        self.has("(\\x.a) b", "a b")
        self.has("(\\x.\\y.x) a b", "a b")
        self.has("(\\x.y) ((\\x.x x) (\\x.x x))", "y")


class Defined(unittest.TestCase):
    def has(self, text, answer, *before):
        self.assertEqual(last(*before, names(text)), listed(answer), text)

    def test_left_out(self):
        i = define("i", "\\x.x")
        self.has("i", "", i)
        self.has("i a", "a", i)
        self.has("a i b i", "a b", i)
        self.has("\\x.i x j", "j", i)

    def test_left_out_whether_or_not_a_function_has_the_name(self):
        i = define("i", "\\x.x")
        self.has("i (\\i.i) i", "", i)
        self.has("\\i.i a", "a", i)

    def test_not_before_it_is_defined(self):
        self.assertEqual(told(names("i a"), define("i", "\\x.x"), names("i a")), [listed("i a"), [0], listed("a")])

    def test_a_refused_definition_defines_nothing(self):
        self.has("i a", "i a", define("i", "\\x."))
        self.has("i a", "i a", define("i", "b"))

    def test_defined_anew(self):
        self.has("i a", "a", define("i", "\\x.x"), define("i", "\\x.\\y.x"))
        self.has("i a", "a", define("i", "\\x.x"), define("i", "i b"))

    def test_forgotten_by_begin(self):
        self.has("i a", "i a", define("i", "\\x.x"), begin())
        self.has("i j a", "i a", define("i", "\\x.x"), begin(), define("j", "\\x.x"))

    def test_all_sixteen(self):
        sixteen = [define("n" + str(k), "\\x.x") for k in range(16)]
        self.has(" ".join(["n" + str(k) for k in range(18)]), "n16 n17", *sixteen)

    def test_of_whatever_size(self):
        big = define("b", sized(1024))
        self.has("b b b b b a", "a", big)
        self.has("b " * 1000 + "c", "c", big)


class Refusals(unittest.TestCase):
    def test_length(self):
        self.assertEqual(last(names("a" + " " * 2047)), listed("a"))
        self.assertEqual(last(names("a" + " " * 2048)), [-1])
        self.assertEqual(last(names("a" * 3000)), [-1])
        row = " ".join(["a" + str(k) for k in range(1000, 1341)]) + " "
        self.assertEqual(len(row), 2046)
        self.assertEqual(last(names(row + "bc")), listed(row + "bc"))
        self.assertEqual(last(names(row + "bcd")), [-1])

    def test_no_term(self):
        for text in ("", " ", "(", "a)", "a ()", "\\x.", "\\x", "a.b", "A", "1", "abcdefghi", "a b \\c", "a\x00"):
            self.assertEqual(last(names(text)), [-2], text)

    def test_most(self):
        self.assertEqual(last(names("a", 1)), listed("a"))
        self.assertEqual(last(names("a", 0)), [-6])
        self.assertEqual(last(names("f xy f z", 6)), listed("f xy z"))
        self.assertEqual(last(names("f xy f z", 7)), listed("f xy z"))
        self.assertEqual(last(names("f xy f z", 5)), [-6])
        self.assertEqual(last(names("f xy f z", 0)), [-6])
        self.assertEqual(last(names("f xy f z", PLENTY)), listed("f xy z"))

    def test_none_fits_always(self):
        self.assertEqual(last(names("\\x.x", 0)), [0])
        self.assertEqual(last(define("i", "\\x.x"), names("i", 0)), [0])

    def test_most_counts_what_is_answered_alone(self):
        self.assertEqual(last(define("i", "\\x.x"), names("i (\\long.long) a i", 1)), listed("a"))


class WhichIsToldFirst(unittest.TestCase):
    def test_long_text_before_no_term(self):
        self.assertEqual(last(names("(" * 2049)), [-1])
        self.assertEqual(last(names("a " * 1025, 0)), [-1])

    def test_no_term_before_most(self):
        self.assertEqual(last(names("a b (", 0)), [-2])

    def test_a_refusal_changes_nothing(self):
        refused = [names("a ("), names("a" * 2049), names("a b", 2)]
        answered = told(define("i", "\\x.x"), *refused, names("a i b"))
        self.assertEqual(answered, [[0], [-2], [-1], [-6], listed("a b")])


if __name__ == "__main__":
    unittest.main()
