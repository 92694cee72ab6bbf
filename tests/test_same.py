"""Promise 3: same."""

import unittest

from helper import begin, define, last, same, sized, told

BIG = [define("b", sized(1024)), define("c", sized(1019)), define("d", sized(1020))]
# x applied to four arguments: 3 * 1024 + 5 and the size of the fourth.
LARGEST = "x b b b c"
TOO_LARGE = "x b b b d"


class Same(unittest.TestCase):
    def are(self, answer, a, b, *before):
        self.assertEqual(last(*before, same(a, b)), [answer], (a, b))
        self.assertEqual(last(*before, same(b, a)), [answer], (b, a))

    def test_the_same_text(self):
        for text in ("a", "a b", "\\x.x", "f (\\x.x y) (\\y.x y) z", "(\\x.x x) (\\x.x x)"):
            self.are(1, text, text)

    def test_functions_of_other_names(self):
        self.are(1, "\\x.x", "\\y.y")
        self.are(1, "\\x.\\y.x y", "\\y.\\x.y x")
        self.are(1, "\\x.\\y.y x", "\\a1.\\longname.longname a1")
        self.are(1, "f (\\x.x z) \\y.y", "f (\\a.a z) (\\a.a)")
        self.are(1, "\\x.f (\\y.y x) (\\y.x y)", "\\z.f (\\a.a z) (\\b.z b)")

    def test_other_blanks_and_parentheses(self):
        self.are(1, "f x y", " ((f)(x))\t\n(y)")
        self.are(1, "\\x.\\y.x y", "(\\x . (\\y . (x y)))")
        self.are(1, "f \\x.x", "f(\\x.x)")

    def test_another_free_name(self):
        self.are(0, "a", "b")
        self.are(0, "a", "a1")
        self.are(0, "ab", "a b")
        self.are(0, "f (\\x.x a)", "f (\\x.x b)")
        self.are(0, "\\x.y", "\\x.z")

    def test_another_order(self):
        self.are(0, "a b", "b a")
        self.are(0, "a b c", "a c b")
        self.are(0, "\\x.\\y.x y", "\\x.\\y.y x")
        self.are(0, "f (\\x.x) a", "f a (\\x.x)")

    def test_other_parts_together(self):
        self.are(0, "a b c", "a (b c)")
        self.are(0, "\\x.x x x", "\\x.x (x x)")
        self.are(0, "(\\x.x) a", "\\x.x a")
        self.are(0, "f (\\x.x) y", "f (\\x.x y)")

    def test_the_name_of_another_function(self):
        self.are(0, "\\x.\\y.x", "\\x.\\y.y")
        self.are(0, "\\x.\\y.\\z.x z", "\\x.\\y.\\z.y z")
        self.are(0, "\\x.x (\\y.x)", "\\x.x (\\y.y)")

    def test_more_or_fewer_of_something(self):
        self.are(0, "a", "a a")
        self.are(0, "\\x.x", "\\x.\\y.x")
        self.are(0, "\\x.x", "x")
        self.are(0, "\\x.a", "a")
        self.are(0, "\\x.x x", "\\x.x x x")

    def test_free_in_one_and_a_functions_in_the_other(self):
        self.are(0, "\\x.x", "\\y.x")
        self.are(0, "\\x.\\y.x", "\\y.\\z.x")
        self.are(0, "f (\\x.x) x", "f (\\x.x) (\\x.x)")
        self.are(0, "\\x.f (\\y.y) y", "\\x.f (\\y.y) x")

    def test_the_name_of_a_function_is_not_a_free_name(self):
        self.are(0, "\\x.a", "\\a.a")
        self.are(1, "\\x.a", "\\y.a")
        self.are(0, "\\x.\\y.a", "\\a.\\b.a")

    def test_functions_of_the_same_name_within_one_another(self):
        self.are(1, "\\x.\\x.x", "\\x.\\y.y")
        self.are(0, "\\x.\\x.x", "\\x.\\y.x")
        self.are(1, "\\x.f (\\x.x) x", "\\x.f (\\y.y) x")
        self.are(0, "\\x.f (\\x.x) x", "\\x.f (\\y.x) x")
        self.are(1, "\\x.\\y.\\x.y x", "\\a.\\b.\\c.b c")
        self.are(0, "\\x.\\y.\\x.y x", "\\a.\\b.\\c.b a")
        self.are(1, "(\\x.\\x.x) x", "(\\y.\\z.z) x")


class NoSteps(unittest.TestCase):
    def test_what_leads_to_the_same_is_not_the_same(self):
        self.assertEqual(last(same("(\\x.x) a", "a")), [0])
        self.assertEqual(last(same("(\\x.x) a", "(\\y.a) b")), [0])
        self.assertEqual(last(define("i", "\\x.x"), same("i i", "i")), [0])

    def test_a_function_that_only_applies_is_not_what_it_applies(self):
        self.assertEqual(last(same("\\x.f x", "f")), [0])

    def test_a_term_without_end(self):
        self.assertEqual(last(same("(\\x.x x) (\\x.x x)", "(\\y.y y) (\\z.z z)")), [1])


class Defined(unittest.TestCase):
    def are(self, answer, a, b, *before):
        self.assertEqual(last(*before, same(a, b)), [answer], (a, b))
        self.assertEqual(last(*before, same(b, a)), [answer], (b, a))

    def test_a_defined_name_stands_for_its_term(self):
        k = define("k", "\\x.\\y.x")
        self.are(1, "k", "\\a.\\b.a", k)
        self.are(1, "k k", "(\\a.\\b.a) (\\c.\\d.c)", k)
        self.are(0, "k", "\\a.\\b.b", k)
        self.are(0, "k", "k k", k)
        self.are(1, "\\x.\\y.k y x", "\\p.\\q.(\\x.\\y.x) q p", k)

    def test_two_names_for_the_same(self):
        calls = [define("k", "\\x.\\y.x"), define("l", "\\y.\\x.y"), define("m", "\\x.\\y.y")]
        self.are(1, "k l", "l k", *calls)
        self.are(0, "k", "m", *calls)

    def test_a_functions_name_is_not_the_defined_one(self):
        i = define("i", "\\x.x")
        self.are(1, "\\i.i", "\\x.x", i)
        self.are(0, "\\i.i", "\\x.i", i)
        self.are(1, "f (\\i.i) i", "f (\\a.a) (\\a.a)", i)

    def test_a_name_that_is_not_defined(self):
        self.are(0, "i", "\\x.x")
        self.are(0, "i", "\\x.x", define("i", "\\x.x"), begin())
        self.are(0, "i", "j", define("i", "\\x.x"))

    def test_defined_anew(self):
        calls = [define("f", "\\x.x"), define("g", "f f"), define("f", "\\x.\\y.x")]
        self.are(1, "f", "\\x.\\y.x", *calls)
        self.are(0, "g", "f f", *calls)
        self.are(1, "g", "(\\x.x) (\\x.x)", *calls)


class Refusals(unittest.TestCase):
    def refuses(self, refusal, a, b, *before):
        self.assertEqual(last(*before, same(a, b)), [refusal])
        self.assertEqual(last(*before, same(b, a)), [refusal])

    def test_length(self):
        longest = "a" + " " * 2047
        self.assertEqual(last(same(longest, "a")), [1])
        self.assertEqual(last(same("a", longest)), [1])
        self.assertEqual(last(same(longest, longest)), [1])
        self.refuses(-1, longest + " ", "a")
        self.refuses(-1, longest + " ", longest)
        self.refuses(-1, longest + " ", longest + " ")
        self.refuses(-1, "a" * 3000, "a")

    def test_no_term(self):
        for text in ("", " ", "(", "a)", "\\x.", "\\x", "A", "abcdefghi", "()", "a.b", "\\x.x)"):
            self.refuses(-2, text, "a")
            self.refuses(-2, text, text)

    def test_size(self):
        self.assertEqual(last(*BIG, same(LARGEST, LARGEST)), [1])
        self.assertEqual(last(*BIG, same(LARGEST, "a")), [0])
        self.assertEqual(last(*BIG, same("a", LARGEST)), [0])
        self.refuses(-5, TOO_LARGE, "a", *BIG)
        self.refuses(-5, TOO_LARGE, LARGEST, *BIG)
        self.refuses(-5, TOO_LARGE, TOO_LARGE, *BIG)

    def test_largest_without_a_free_name(self):
        # Functions count too: four times 1024 and three applications are 4099, so one of them is smaller by three.
        calls = BIG + [define("e", sized(1021)), define("f", sized(1022))]
        self.assertEqual(last(*calls, same("b b b e", "b b b e")), [1])
        self.refuses(-5, "b b b f", "b b b e", *calls)
        self.assertEqual(last(*calls, same("\\x.b b b d", "\\y.b b b d")), [1])
        self.refuses(-5, "\\x.b b b e", "a", *calls)

    def test_much_too_large(self):
        self.refuses(-5, "b " * 1000, "a", *BIG)

    def test_largest_terms_that_differ_at_their_end(self):
        calls = [*BIG, define("e", "\\x.\\y." + " ".join(["y"] * 508 + ["x"]))]
        self.assertEqual(last(*calls, same(LARGEST, "x b b b e")), [0])


class WhichIsToldFirst(unittest.TestCase):
    def refuses(self, refusal, a, b, *before):
        self.assertEqual(last(*before, same(a, b)), [refusal])
        self.assertEqual(last(*before, same(b, a)), [refusal])

    def test_long_text_before_no_term(self):
        self.refuses(-1, "a" + " " * 2048, "(")
        self.refuses(-1, "(" * 2049, "a")
        self.refuses(-1, "(" * 2049, "")

    def test_long_text_before_size(self):
        self.refuses(-1, "a" + " " * 2048, TOO_LARGE, *BIG)
        self.refuses(-1, TOO_LARGE + " " * 2048, "a", *BIG)

    def test_no_term_before_size(self):
        self.refuses(-2, TOO_LARGE, "(", *BIG)
        self.refuses(-2, TOO_LARGE + ")", "a", *BIG)
        self.refuses(-2, TOO_LARGE, "", *BIG)

    def test_a_refusal_changes_nothing(self):
        refused = [same("(", "a"), same("a" * 2049, "a"), same(TOO_LARGE, "a")]
        answered = told(*BIG, define("x", "\\x.x"), *refused, same("x", "\\y.y"), same("b", sized(1024)))
        self.assertEqual(answered, [[0]] * 4 + [[-2], [-1], [-5], [1], [1]])


if __name__ == "__main__":
    unittest.main()
