"""A step: which place is taken, and what is put there."""

import unittest

from helper import define, last, normal, success

OMEGA = "((\\x.x x) (\\x.x x))"


class WhichPlace(unittest.TestCase):
    def counts(self, text, steps, written):
        self.assertEqual(last(normal(text)), success(steps, written), text)

    def test_the_outermost_before_what_is_in_the_argument(self):
        self.counts("(\\x.a) " + OMEGA, 1, "a")
        # Taken first, the argument's step would be made once and not twice.
        self.counts("(\\x.f x x) ((\\y.y) a)", 3, "f a a")
        self.counts("(\\x.f x x) (\\z.(\\y.y) z)", 3, "f (\\a.a) \\a.a")

    def test_the_outermost_before_what_is_in_the_function(self):
        # Taken first, what is in the function would never end.
        self.counts("(\\x.x " + OMEGA + ") (\\y.a)", 2, "a")
        self.counts("(\\x.(\\y.x) " + OMEGA + ") a", 2, "a")

    def test_what_is_applied_before_the_argument(self):
        self.counts("(\\x.\\y.x) a " + OMEGA, 2, "a")
        self.counts("((\\x.x) (\\x.\\y.x)) a " + OMEGA, 3, "a")
        self.assertEqual(last(normal("f ((\\x.x) a) " + OMEGA, steps=7)), [-4, 7])

    def test_arguments_from_the_left(self):
        # The first argument grows without end, the second would not: it is never come to.
        growing = "((\\x.x x x) (\\x.x x x))"
        self.assertEqual(last(normal("f " + growing + " " + OMEGA))[0], -5)
        self.assertEqual(last(normal("f " + OMEGA + " " + growing)), [-4, 100000])

    def test_within_functions(self):
        self.counts("\\x.(\\y.y) x", 1, "\\a.a")
        self.counts("f (\\x.(\\y.y y) x) ((\\z.z) b)", 2, "f (\\a.a a) b")

    def test_a_function_that_comes_to_be_applied(self):
        self.counts("(\\x.x) (\\x.x) a", 2, "a")
        self.counts("(\\x.x (\\y.y)) (\\f.f (f a))", 4, "a")
        self.counts("(\\x.\\y.\\z.x z (y z)) (\\x.\\y.x) (\\x.\\y.x) a", 5, "a")

    def test_a_defined_name_as_if_its_term_stood_there(self):
        calls = [define("o", OMEGA), define("k", "\\x.\\y.x")]
        self.assertEqual(last(*calls, normal("k a o")), success(2, "a"))
        self.assertEqual(last(*calls, normal("k o a", steps=50)), [-4, 50])


class WhatIsPut(unittest.TestCase):
    def leads_to(self, text, written):
        answer = last(normal(text))
        self.assertEqual([answer[0], bytes(answer[2:]).decode()], [len(written), written], text)

    def test_for_each_of_its_names(self):
        self.leads_to("(\\x.x x (\\y.x)) a", "a a \\b.a")

    def test_for_no_other_name(self):
        self.leads_to("(\\x.f (\\x.x) x) a", "f (\\b.b) a")
        self.leads_to("(\\x.y) a", "y")

    def test_free_names_of_the_argument_stay_free(self):
        self.leads_to("(\\x.\\y.x) y", "\\a.y")
        self.leads_to("(\\x.\\y.x y) (y y)", "\\a.y y a")
        self.leads_to("(\\x.\\a.x a) a", "\\b.a b")
        self.leads_to("(\\x.\\y.\\z.x) (y z)", "\\a.\\b.y z")

    def test_names_of_outer_functions_stay_theirs(self):
        self.leads_to("\\y.(\\x.\\y.x) y", "\\a.\\b.a")
        self.leads_to("\\x.\\y.(\\z.\\x.\\y.z x y) (x y)", "\\a.\\b.\\c.\\d.a b c d")

    def test_copies_of_one_function_put_into_each_other(self):
        self.leads_to("(\\f.f f) (\\y.\\z.y z)", "\\a.\\b.a b")
        self.leads_to("(\\f.f (f f)) (\\y.\\z.y z)", "\\a.\\b.a b")
        self.leads_to("\\a.(\\f.\\b.f (f b)) (\\b.\\a.b) a", "\\a.\\b.\\c.a")


if __name__ == "__main__":
    unittest.main()
