"""Written: the functions' names, spaces, and the parentheses that are needed."""

import unittest

from helper import last, normal, success

LETTERS = "abcdefghijklmnopqrstuvwxyz"


class Names(unittest.TestCase):
    def writes(self, text, written):
        self.assertEqual(last(normal(text)), success(0, written), text)

    def nested(self, count, end, left_out=()):
        """So many functions of the name x within one another, as they are to be written."""
        names = [letter + digits for digits in [""] + [str(k) for k in range(1, 40)] for letter in LETTERS]
        used = [name for name in names if name not in left_out][:count]
        self.writes("\\x." * count + end, "".join(["\\" + name + "." for name in used]) + end.replace("x", used[-1]))

    def test_by_how_many_functions_are_around(self):
        self.writes("\\z.\\y.\\x.z y x", "\\a.\\b.\\c.a b c")
        self.writes("f (\\x.x) (\\x.\\y.y) (\\x.x)", "f (\\a.a) (\\a.\\b.b) \\a.a")
        self.writes("f (\\x.g (\\y.y) (\\y.x)) \\y.y", "f (\\a.g (\\b.b) \\b.a) \\a.a")

    def test_behind_z_comes_a1(self):
        self.nested(26, "x")
        self.nested(27, "x")
        self.nested(28, "x x")

    def test_behind_z1_comes_a2(self):
        self.nested(52, "x")
        self.nested(53, "x")

    def test_behind_z9_comes_a10(self):
        self.nested(260, "x")
        self.nested(261, "x")
        self.nested(600, "x")

    def test_a_few_of_them_by_their_names(self):
        answer = last(normal("\\x." * 600 + "x"))
        names = bytes(answer[2:]).decode().split(".")
        self.assertEqual([names[k] for k in (0, 25, 26, 51, 52, 259, 260, 599, 600)],
                         ["\\a", "\\z", "\\a1", "\\z1", "\\a2", "\\z9", "\\a10", "\\b23", "b23"])

    def test_names_that_are_free_are_left_out(self):
        self.writes("\\x.a", "\\b.a")
        self.writes("\\x.\\y.b x y", "\\a.\\c.b a c")
        self.writes("\\x.\\y.\\z.a c x y z", "\\b.\\d.\\e.a c b d e")
        self.nested(30, "x z a1", ("z", "a1"))
        self.nested(26, "x z", ("z",))

    def test_names_that_are_free_anywhere_in_the_whole_term(self):
        self.writes("f (\\x.x) a", "f (\\b.b) a")
        self.writes("a \\x.x", "a \\b.b")
        self.writes("f (\\x.x) (\\y.b y a)", "f (\\c.c) \\c.b c a")

    def test_names_that_were_free_and_are_gone(self):
        self.assertEqual(last(normal("(\\x.\\y.y) a")), success(1, "\\a.a"))

    def test_longer_free_names_are_not_in_the_way(self):
        self.writes("\\x.x ab a0 a01", "\\a.a ab a0 a01")

    def test_a_free_name_twice(self):
        self.writes("\\x.a a x a", "\\b.a a b a")


class Parentheses(unittest.TestCase):
    def same(self, *texts):
        for text in texts:
            self.assertEqual(last(normal(text)), success(0, text))

    def writes(self, text, written):
        self.assertEqual(last(normal(text)), success(0, written))

    def test_where_they_are_needed(self):
        self.same("f (g x)", "f (g x) y", "f (g (h x))", "f (g x) (h y) z", "\\a.a (a a)")
        self.same("f (\\a.a) x", "f (\\a.a) (\\a.a) x", "f (\\a.a) \\a.a")
        self.same("f (g \\a.a) x", "f (g \\a.a)", "f (g (\\a.a) x)", "f (\\a.g \\b.b) x")

    def test_no_others(self):
        self.writes("(x)", "x")
        self.writes("(f x) y", "f x y")
        self.writes("f (\\x.x)", "f \\a.a")
        self.writes("f (g (\\x.x))", "f (g \\a.a)")
        self.writes("\\x.(\\y.(x y))", "\\a.\\b.a b")
        self.writes("\\x.(x (x))", "\\a.a a")
        self.writes("\\x.x (\\y.y (\\z.z))", "\\a.a \\b.b \\c.c")
        self.writes("f (\\x.x (\\y.y)) z", "f (\\a.a \\b.b) z")

    def test_one_space(self):
        self.writes("  f   x\t\ny  ", "f x y")
        self.writes("\\ x . x  x", "\\a.a a")
        self.writes("f(x y)(\\x.x)z", "f (x y) (\\a.a) z")

    def test_what_is_written_reads_as_the_same(self):
        for text in ("\\x.\\y.x (y x) \\z.z x", "f (\\x.\\y.f x (y (\\z.z) a)) (b c)"):
            written = last(normal(text))
            self.assertEqual(last(normal(bytes(written[2:]).decode())), written)


if __name__ == "__main__":
    unittest.main()
