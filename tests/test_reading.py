"""Terms: what is one, and what its parts belong to."""

import unittest

from helper import last, normal, success


class Reading(unittest.TestCase):
    def reads(self, text, written):
        self.assertEqual(last(normal(text, steps=0)), success(0, written), text)

    def refuses(self, *texts):
        for text in texts:
            self.assertEqual(last(normal(text, steps=0)), [-2], text)

    def test_names(self):
        for name in ("a", "z", "a0", "z9", "abcdefgh", "a1234567", "x9y8"):
            self.reads(name, name)

    def test_names_that_are_none(self):
        self.refuses("abcdefghi", "a12345678", "1", "9a", "a 1", "a 1a", "A", "aB", "_a", "a_b", "\xe4", "a'")

    def test_too_long_or_wrong_names_of_functions(self):
        self.reads("\\abcdefgh.abcdefgh", "\\a.a")
        self.refuses("\\abcdefghi.x", "\\1.x", "\\1a.x", "\\A.x")

    def test_blanks_part_names(self):
        self.reads("a b", "a b")
        self.reads("ab", "ab")
        self.reads("a\tb\nc", "a b c")

    def test_blanks_anywhere(self):
        self.reads(" \t\n a \n\t ", "a")
        self.reads(" f ( \\ x\t.\n x ) y ", "f (\\a.a) y")
        self.reads("f(\\x.x)y", "f (\\a.a) y")
        self.reads("f\\x.x", "f \\a.a")
        self.reads("(a)(b)", "a b")
        self.reads("(a)b(c)d", "a b c d")

    def test_no_other_blanks(self):
        self.refuses("a\rb", "a\x0bb", "a\x0cb", "a\0", "\xa0a", "a\x85b")

    def test_no_other_signs(self):
        self.refuses("a,b", "[a]", "{a}", "a;", "a/b", "a:b", "`a", "a@", "a#", "a-b", "\x7f", "\xff", "\x80", "/x.x")

    def test_every_other_byte(self):
        meant = [9, 10, 32, 40, 41, 46, 92] + list(range(48, 58)) + list(range(97, 123))
        self.refuses(*["a " + chr(byte) + " b" for byte in range(256) if byte not in meant])

    def test_rows_are_applied_from_the_left(self):
        self.reads("a b c d", "a b c d")
        self.reads("((a b) c) d", "a b c d")
        self.reads("a (b (c d))", "a (b (c d))")

    def test_parentheses(self):
        self.reads("(a)", "a")
        self.reads("((((a))))", "a")
        self.refuses("(", ")", "()", "(a", "a)", "a ()", "() a", "((a)", "(a))", ")a(", "a (b", "( )", "\\x.()")

    def test_nothing_at_all(self):
        self.refuses("", " ", "\t\n ")

    def test_a_function_is_the_last_part(self):
        self.reads("a \\x.x", "a \\b.b")
        self.reads("a b \\x.x b", "a b \\c.c b")

    def test_a_function_goes_on_as_far_as_it_can(self):
        self.reads("\\x.x x (x) x", "\\a.a a a a")
        self.reads("f (\\x.x a) x", "f (\\b.b a) x")
        self.reads("\\x.\\y.x y", "\\a.\\b.a b")
        self.reads("\\x.x \\y.x y", "\\a.a \\b.a b")
        self.reads("f (\\x.\\y.y x) (\\x.x)", "f (\\a.\\b.b a) \\a.a")

    def test_functions_that_lack_something(self):
        self.refuses("\\", "\\x", "\\x.", "\\x x", "\\.x", "\\x y.x", "\\(x).x", "\\\\x.x", "\\x..x", "x.x", ".", "x.")
        self.refuses("(\\x.)", "(\\x) x", "(\\)", "a \\", "a \\x", "a \\x.", "\\x.\\y.", "\\x.)", "\\x.\\y", "\\x(.x)")

    def test_the_innermost_function_of_the_name(self):
        self.reads("\\x.\\x.x", "\\a.\\b.b")
        self.reads("\\x.f (\\x.x) x", "\\a.f (\\b.b) a")
        self.reads("\\x.\\y.\\x.y x", "\\a.\\b.\\c.b c")
        self.reads("f (\\x.x) x", "f (\\a.a) x")
        self.reads("f (\\x.\\x.x) (\\y.x)", "f (\\a.\\b.b) \\a.x")


if __name__ == "__main__":
    unittest.main()
