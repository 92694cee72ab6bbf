"""Terms nested as deep as 2048 bytes allow, and deeper by what is defined and by steps."""

import unittest

from helper import define, last, normal, sized, success


class Deep(unittest.TestCase):
    def test_parentheses(self):
        self.assertEqual(last(normal("(" * 1023 + "a" + ")" * 1023)), success(0, "a"))
        self.assertEqual(last(normal("(" * 1023 + "\\x.x" + ")" * 1021)), [-2])
        self.assertEqual(last(normal("(" * 1023 + "a" + ")" * 1024)), [-2])
        self.assertEqual(last(normal("(" * 1024 + "a" + ")" * 1023)), [-2])

    def test_parentheses_left_open(self):
        self.assertEqual(last(normal("(" * 2047 + "a")), [-2])
        self.assertEqual(last(normal("a" + ")" * 2047)), [-2])
        self.assertEqual(last(normal("\\x." * 682)), [-2])

    def test_arguments(self):
        text = "a (" * 511 + "a" + ")" * 511
        self.assertEqual(last(normal(text)), success(0, text.replace("(a)", "a")))

    def test_arguments_without_blanks(self):
        written = "a (" * 681 + "a a" + ")" * 681
        self.assertEqual(last(normal("a(" * 682 + "a" + ")" * 682)), success(0, written))

    def test_functions(self):
        answer = last(normal("\\x." * 682 + "x"))
        self.assertEqual(answer[1], 0)
        self.assertEqual(bytes(answer[2:]).decode().count("\\"), 682)
        self.assertEqual(bytes(answer[2:]).decode().split(".")[-1], "f26")

    def test_functions_and_parentheses(self):
        text = "(\\x." * 409 + "x" + ")" * 409
        self.assertEqual(bytes(last(normal(text))[2:]).decode().split(".")[-1], "s15")

    def test_a_name_of_the_outermost_function(self):
        written = bytes(last(normal("\\y." + "\\x." * 681 + "y"))[2:]).decode()
        self.assertEqual(written.split(".")[-1], "a")

    def test_functions_applied(self):
        self.assertEqual(last(normal("(\\x.x)" * 340 + "a")), success(340, "a"))
        self.assertEqual(last(normal("(\\x.x)(" * 255 + "a" + ")" * 255)), success(255, "a"))
        self.assertEqual(last(normal("(\\y." + "\\x." * 600 + "y) a", most=0)), [-6, 1])

    def test_an_argument_put_deep_within(self):
        text = "(\\y." + "f (" * 400 + "y" + ")" * 400 + ") ((\\x.x) a)"
        self.assertEqual(last(normal(text)), success(2, "f (" * 399 + "f a" + ")" * 399))

    def test_an_argument_put_deep_within_functions(self):
        text = "(\\y." + "\\x." * 600 + "y) ((\\x.x) g)"
        written = bytes(last(normal(text))[2:]).decode()
        self.assertEqual(written.split(".")[-1], "g")
        self.assertEqual(written.split(".")[599], "\\c23")

    def test_deeper_by_what_is_defined(self):
        define_deep = define("d", "\\z." + "\\x." * 600 + "x")
        text = "\\x." * 600 + "d"
        self.assertEqual(bytes(last(define_deep, normal(text))[2:]).decode().count("\\"), 1201)
        deep = define("d", "\\f.\\x." + "f (" * 500 + "x" + ")" * 500)
        written = bytes(last(deep, normal("d f (d f (d f x))"))[2:]).decode()
        self.assertEqual(written, "f (" * 1499 + "f x" + ")" * 1499)

    def test_deeper_by_steps(self):
        # Ten times ten times ten uses of what t is applied to.
        calls = [define("ten", "\\f.\\x." + "f (" * 9 + "f x" + ")" * 9), define("t", "\\f.\\x.ten (ten (ten f)) x")]
        written = bytes(last(*calls, normal("t (\\x.g x) y"))[2:]).decode()
        self.assertEqual(written, "g (" * 999 + "g y" + ")" * 999)
        written = bytes(last(*calls, normal("t (\\x.\\y.x) a"))[2:]).decode()
        self.assertEqual(written.count("\\"), 1000)

    def test_a_long_row(self):
        row = " ".join(["x"] * 1024)
        self.assertEqual(last(normal(row)), success(0, row))
        self.assertEqual(last(define("b", sized(1024)), normal("b a")), success(1, " ".join(["a"] * 512)))


if __name__ == "__main__":
    unittest.main()
