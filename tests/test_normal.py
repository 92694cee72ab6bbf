"""Promise 2: normal, its answers and its refusals."""

import unittest

from helper import GROWING, OMEGA, PLENTY, TWO_AND_I, define, hundred_thousand_steps, last, normal, sized, success


class Answers(unittest.TestCase):
    def test_a_normal_term(self):
        self.assertEqual(last(normal("a")), success(0, "a"))
        self.assertEqual(last(normal("\\x.x")), success(0, "\\a.a"))

    def test_steps_are_counted(self):
        self.assertEqual(last(normal("(\\x.x) a")), success(1, "a"))
        self.assertEqual(last(normal("(\\x.x x) (\\y.y) a")), success(3, "a"))
        self.assertEqual(last(*TWO_AND_I, normal("two two")), success(6, "\\a.\\b.a (a (a (a b)))"))

    def test_free_names_stay(self):
        self.assertEqual(last(normal("f (\\x.x) (g y)")), success(0, "f (\\a.a) (g y)"))

    def test_no_steps_for_a_defined_name(self):
        self.assertEqual(last(define("i", "\\x.x"), normal("i", steps=0)), success(0, "\\a.a"))

    def test_a_defined_name_is_applied(self):
        self.assertEqual(last(define("i", "\\x.x"), normal("i a", steps=0)), [-4, 0])
        self.assertEqual(last(define("i", "\\x.x"), normal("i a", steps=1)), success(1, "a"))


class Length(unittest.TestCase):
    def test_text(self):
        self.assertEqual(last(normal("a" + " " * 2047)), success(0, "a"))
        self.assertEqual(last(normal("a" + " " * 2048)), [-1])
        self.assertEqual(last(normal("a " * 1024)), success(0, ("a " * 1024)[:-1]))
        self.assertEqual(last(normal("a " * 1500)), [-1])

    def test_no_term(self):
        self.assertEqual(last(normal("")), [-2])
        self.assertEqual(last(normal("(" * 2048)), [-2])

    def test_written_text(self):
        self.assertEqual(last(normal("\\x.x", most=4)), success(0, "\\a.a"))
        self.assertEqual(last(normal("\\x.x", most=3)), [-6, 0])
        self.assertEqual(last(normal("(\\x.x) a", most=1)), success(1, "a"))
        self.assertEqual(last(normal("(\\x.x) a", most=0)), [-6, 1])
        self.assertEqual(last(normal("a", most=PLENTY)), success(0, "a"))


class Steps(unittest.TestCase):
    def test_none_allowed(self):
        self.assertEqual(last(normal("a b", steps=0)), success(0, "a b"))
        self.assertEqual(last(normal("(\\x.x) a", steps=0)), [-4, 0])

    def test_just_enough_and_one_less(self):
        text = "(\\x.x) ((\\x.x) ((\\x.x) a))"
        self.assertEqual(last(normal(text, steps=4)), success(3, "a"))
        self.assertEqual(last(normal(text, steps=3)), success(3, "a"))
        self.assertEqual(last(normal(text, steps=2)), [-4, 2])

    def test_without_end(self):
        for steps in (1, 99999, 100000):
            self.assertEqual(last(normal(OMEGA, steps=steps)), [-4, steps])

    def test_a_hundred_thousand_count(self):
        for steps in (100001, PLENTY):
            self.assertEqual(last(normal(OMEGA, steps=steps)), [-4, 100000])

    def test_a_hundred_thousand_are_made(self):
        text = hundred_thousand_steps("y")
        self.assertEqual(last(*TWO_AND_I, normal(text, steps=100000)), success(100000, "y"))
        self.assertEqual(last(*TWO_AND_I, normal(text, steps=100001)), success(100000, "y"))
        self.assertEqual(last(*TWO_AND_I, normal(text, steps=99999)), [-4, 99999])

    def test_one_more_is_not_made(self):
        text = hundred_thousand_steps("i y")
        self.assertEqual(last(*TWO_AND_I, normal(text, steps=100001)), [-4, 100000])


class Size(unittest.TestCase):
    BIG = [define("b", sized(1024)), define("c", sized(1019)), define("d", sized(1020)), define("i", "\\x.x")]

    def test_a_normal_term(self):
        answer = last(*self.BIG, normal("f b b b c"))
        body = " ".join(["a"] * 512)
        self.assertEqual(answer, success(0, "f " + ("(\\a." + body + ") ") * 3 + "\\a.\\b." + " ".join(["b"] * 509)))
        self.assertEqual(last(*self.BIG, normal("f b b b d")), [-5, 0])

    def test_no_step_is_made_above_it(self):
        # (\x.a) (b b b X) has 4 more than its argument, which has 3 * 1024 + 3 and the size of X.
        self.assertEqual(last(*self.BIG, define("e", sized(1018)), normal("(\\x.a) (b b b e)")), success(1, "a"))
        self.assertEqual(last(*self.BIG, define("e", sized(1019)), normal("(\\x.a) (b b b e)")), [-5, 0])

    def test_a_step_that_goes_above_it_is_counted(self):
        # The step leads to x applied to four arguments: 3 * 1024 + 5 and the size of the fourth.
        self.assertEqual(last(*self.BIG, normal("(\\z.x z z z c) b", most=0)), [-6, 1])
        self.assertEqual(last(*self.BIG, normal("(\\z.x z z z d) b")), [-5, 1])

    def test_it_stops_at_once(self):
        # The next step would make it small again.
        self.assertEqual(last(*self.BIG, normal("(\\z.(\\y.a) (z z z z)) b")), [-5, 1])
        self.assertEqual(last(*self.BIG, normal("(\\z.(\\y.a) (z z z)) b")), success(2, "a"))

    def test_growing_without_end(self):
        # 13 at first, and 7 more with every step: 4094 after 583.
        self.assertEqual(last(normal(GROWING, steps=583)), [-4, 583])
        self.assertEqual(last(normal(GROWING, steps=584)), [-5, 584])
        self.assertEqual(last(normal(GROWING)), [-5, 584])


class WhichIsToldFirst(unittest.TestCase):
    BIG = [define("b", sized(1024))]

    def test_long_text_before_no_term(self):
        self.assertEqual(last(normal("(" * 2049)), [-1])

    def test_no_term_before_all_that_comes_later(self):
        self.assertEqual(last(*self.BIG, normal("b b b b b )", steps=0, most=0)), [-2])

    def test_size_before_not_normal(self):
        self.assertEqual(last(*self.BIG, normal("b b b b", steps=0)), [-5, 0])
        self.assertEqual(last(*self.BIG, normal("(\\x.x x x x) b", steps=1)), [-5, 1])

    def test_size_before_most(self):
        self.assertEqual(last(*self.BIG, normal("f b b b b", most=0)), [-5, 0])

    def test_not_normal_before_most(self):
        self.assertEqual(last(normal("(\\x.x) a", steps=0, most=0)), [-4, 0])


if __name__ == "__main__":
    unittest.main()
