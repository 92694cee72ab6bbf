"""Promise 4: number."""

import unittest

from helper import GROWING, OMEGA, PLENTY, TWO_AND_I
from helper import begin, define, hundred_thousand_steps, last, number, numeral, sized, told

ARITHMETIC = [
    define("plus", "\\m.\\n.\\f.\\x.m f (n f x)"),
    define("times", "\\m.\\n.\\f.m (n f)"),
    define("pred", "\\n.\\f.\\x.n (\\g.\\h.h (g f)) (\\u.x) (\\u.u)"),
    define("two", numeral(2)), define("three", numeral(3)), define("ten", numeral(10))]


class AsItIs(unittest.TestCase):
    def is_number(self, text, answer):
        self.assertEqual(last(number(text, 0)), [answer], text)

    def test_the_first_ones(self):
        self.is_number("\\f.\\x.x", 0)
        self.is_number("\\f.\\x.f x", 1)
        self.is_number("\\f.\\x.f (f x)", 2)
        self.is_number("\\f.\\x.f (f (f x))", 3)

    def test_larger_ones(self):
        for count in (4, 10, 99, 100, 255, 256, 679):
            self.is_number(numeral(count), count)

    def test_the_largest_that_a_text_holds(self):
        self.assertEqual(len(numeral(680)), 2046)
        self.is_number(numeral(680), 680)
        self.is_number(numeral(681), -1)

    def test_other_names_of_the_functions(self):
        self.is_number("\\x.\\f.x (x f)", 2)
        self.is_number("\\a.\\b.b", 0)
        self.is_number("\\longname.\\z9.longname z9", 1)

    def test_functions_of_the_same_name(self):
        self.is_number("\\x.\\x.x", 0)
        self.is_number("\\x.\\x.x x", -8)

    def test_other_blanks_and_parentheses(self):
        self.is_number(" ( \\ f . ( \\ x . ( f ) ( ( f x ) ) ) )\n", 2)


class BySteps(unittest.TestCase):
    def leads_to(self, text, answer):
        self.assertEqual(last(*ARITHMETIC, number(text)), [answer], text)

    def test_small_ones(self):
        self.leads_to("(\\x.x) (\\f.\\x.x)", 0)
        self.leads_to("(\\x.x) (\\f.\\x.f x)", 1)
        self.leads_to("\\f.(\\y.\\x.f (y x)) f", 2)
        self.leads_to("\\f.\\x.(\\y.f y) ((\\z.z) x)", 1)
        self.leads_to("\\f.\\x.f ((\\y.f y) x)", 2)

    def test_arithmetic(self):
        self.leads_to("plus two three", 5)
        self.leads_to("times two three", 6)
        self.leads_to("three two", 8)
        self.leads_to("two three", 9)
        self.leads_to("pred three", 2)
        self.leads_to("pred (pred two)", 0)
        self.leads_to("pred (\\f.\\x.x)", 0)
        self.leads_to("times (times ten ten) ten", 1000)

    def test_one_of_the_largest_that_the_size_allows(self):
        # The first step puts 510 uses of f at four places, with a function around each: 4095 in all.
        text = "(\\y.y (y (y (y x)))) (\\z." + "f(" * 509 + "f z" + ")" * 509 + ")"
        self.leads_to("\\f.\\x." + text, 2040)
        self.leads_to("\\f.\\x.f (" + text + ")", -5)

    def test_defined_names(self):
        self.assertEqual(last(define("two", numeral(2)), number("two", 0)), [2])
        self.assertEqual(last(define("one", "\\f.\\x.f x"), number("\\f.\\x.one f x", 1)), [-4])
        self.assertEqual(last(define("one", "\\f.\\x.f x"), number("\\f.\\x.one f x", 2)), [1])
        self.assertEqual(last(define("two", numeral(2)), begin(), number("two")), [-8])
        self.assertEqual(last(define("n", numeral(2)), define("n", numeral(3)), number("n")), [3])

    def test_a_functions_name_is_not_the_defined_one(self):
        calls = [define("f", numeral(2)), define("x", numeral(3))]
        self.assertEqual(last(*calls, number("\\f.\\x.f (f (f (f x)))")), [4])


class NoNumber(unittest.TestCase):
    def is_none(self, *texts):
        for text in texts:
            self.assertEqual(last(number(text)), [-8], text)

    def test_a_function_of_one_argument_alone(self):
        self.is_none("\\f.f", "\\x.x x", "\\f.f (f f)", "\\f.y", "\\f.f \\x.x", "\\f.f (\\x.f x)")

    def test_no_function(self):
        self.is_none("a", "f x", "f (f x)", "f \\x.x", "x (\\f.\\x.x)", "two")

    def test_the_names_at_other_places(self):
        self.is_none("\\x.\\y.y x", "\\f.\\x.f", "\\f.\\x.x x", "\\f.\\x.f f", "\\f.\\x.x f", "\\f.\\x.x (f x)")
        self.is_none("\\f.\\x.f (f f)", "\\f.\\x.f (x x)", "\\f.\\x.f (f (x x))", "\\f.\\x.f (x (f x))")

    def test_applied_to_more(self):
        self.is_none("\\f.\\x.f x x", "\\f.\\x.f f x", "\\f.\\x.f (f x) x", "\\f.\\x.f x (f x)", "\\f.\\x.f (f x x)")
        self.is_none("\\f.\\x.f (f (f x x))", "\\f.\\x.(f f) (f x)")

    def test_free_names(self):
        self.is_none("\\f.\\x.y", "\\f.\\x.f y", "\\f.\\x.g x", "\\f.\\x.g (f x)", "\\f.\\x.f (g x)", "\\x.\\y.f x")
        self.is_none("\\g.\\y.f (f x)", "\\g.\\x.f x", "\\f.\\y.f x")

    def test_more_functions(self):
        self.is_none("\\f.\\x.\\y.x", "\\f.\\x.\\y.y", "\\f.\\x.\\y.f x", "\\f.\\x.\\y.f y", "\\g.\\f.\\x.f x")
        self.is_none("\\f.\\x.f \\y.y", "\\f.\\x.f (\\y.x)", "\\f.\\x.f (f \\y.y)", "\\f.\\x.f (\\x.x)")
        self.is_none("\\f.\\x.\\y.f", "\\f.\\f.\\x.f x")

    def test_by_steps(self):
        self.is_none("(\\x.x) a", "(\\x.x) (\\x.x)", "(\\x.\\y.x) y", "\\f.(\\x.x) f", "(\\x.\\f.\\y.x) a")
        # A term that only applies f is not f: none but these very terms are numbers.
        self.is_none("\\f.\\x.f (\\y.x y)", "\\f.\\x.\\y.f x y", "\\f.\\x.(\\y.\\z.f y z) x")


class Refusals(unittest.TestCase):
    def test_length(self):
        text = "\\f.\\x.f x"
        self.assertEqual(last(number(text + " " * (2048 - len(text)))), [1])
        self.assertEqual(last(number(text + " " * (2049 - len(text)))), [-1])
        self.assertEqual(last(number("a" * 3000)), [-1])

    def test_no_term(self):
        for text in ("", " ", "(", "a)", "\\f.\\x.", "\\f.\\x", "2", "\\f.\\x.f (f x", "\\f.\\x.f (f x))", "\\f x.x"):
            self.assertEqual(last(number(text)), [-2], text)

    def test_no_steps(self):
        self.assertEqual(last(number("(\\x.x) (\\f.\\x.x)", 0)), [-4])
        self.assertEqual(last(number("(\\x.x) a", 0)), [-4])
        self.assertEqual(last(number("a", 0)), [-8])

    def test_steps_just_enough_and_one_less(self):
        # As many steps as normal makes, see there: 6.
        self.assertEqual(last(*TWO_AND_I, number("two two", 7)), [4])
        self.assertEqual(last(*TWO_AND_I, number("two two", 6)), [4])
        self.assertEqual(last(*TWO_AND_I, number("two two", 5)), [-4])
        self.assertEqual(last(*TWO_AND_I, number("i (i (i two))", 3)), [2])
        self.assertEqual(last(*TWO_AND_I, number("i (i (i two))", 2)), [-4])

    def test_without_end(self):
        for steps in (1, 100000, 100001, PLENTY):
            self.assertEqual(last(number(OMEGA, steps)), [-4])

    def test_a_hundred_thousand_count(self):
        for steps in (100000, 100001, PLENTY):
            self.assertEqual(last(*TWO_AND_I, number(hundred_thousand_steps("two"), steps)), [2])
            self.assertEqual(last(*TWO_AND_I, number(hundred_thousand_steps("i two"), steps)), [-4])
        self.assertEqual(last(*TWO_AND_I, number(hundred_thousand_steps("two"), 99999)), [-4])

    def test_size(self):
        big = [define("b", sized(1024)), define("e", sized(1018)), define("g", sized(1019)), define("two", numeral(2))]
        # (\x.two) X has 9 for what is applied, 1 for the application, and the size of X.
        self.assertEqual(last(*big, number("(\\x.two) (b b b)")), [2])
        self.assertEqual(last(*big, number("x b b b g")), [-8])
        self.assertEqual(last(*big, define("h", sized(1020)), number("x b b b h")), [-5])
        self.assertEqual(last(*big, number("(\\x.a) (b b b e)")), [-8])
        self.assertEqual(last(*big, number("(\\x.a) (b b b g)")), [-5])

    def test_it_stops_at_once(self):
        # The next step would make it small again.
        big = [define("b", sized(1024)), define("two", numeral(2))]
        self.assertEqual(last(*big, number("(\\z.(\\y.two) (z z z z)) b")), [-5])
        self.assertEqual(last(*big, number("(\\z.(\\y.two) (z z z)) b")), [2])

    def test_growing_without_end(self):
        self.assertEqual(last(number(GROWING, 583)), [-4])
        self.assertEqual(last(number(GROWING, 584)), [-5])
        self.assertEqual(last(number(GROWING)), [-5])


class WhichIsToldFirst(unittest.TestCase):
    BIG = [define("b", sized(1024))]

    def test_long_text_before_no_term(self):
        self.assertEqual(last(number("(" * 2049)), [-1])

    def test_no_term_before_all_that_comes_later(self):
        self.assertEqual(last(*self.BIG, number("b b b b b )", 0)), [-2])

    def test_size_before_not_normal(self):
        self.assertEqual(last(*self.BIG, number("b b b b", 0)), [-5])
        self.assertEqual(last(*self.BIG, number("(\\x.x x x x) b", 1)), [-5])

    def test_size_before_no_number(self):
        self.assertEqual(last(*self.BIG, number("x b b b b")), [-5])

    def test_not_normal_before_no_number(self):
        self.assertEqual(last(number("f ((\\x.x) a)", 0)), [-4])

    def test_a_refusal_changes_nothing(self):
        refused = [number("("), number("a" * 2049), number("b b b b"), number("b b", 0), number("b")]
        answered = told(*self.BIG, define("x", numeral(7)), *refused, number("x"))
        self.assertEqual(answered, [[0], [0], [-2], [-1], [-5], [-4], [-8], [7]])


if __name__ == "__main__":
    unittest.main()
