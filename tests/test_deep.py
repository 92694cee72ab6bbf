"""Terms nested as deep as 2048 bytes allow, and deeper by what is defined and by steps."""

import unittest

from helper import define, last, listed, names, normal, number, numeral, same, sized, success


class Deep(unittest.TestCase):
    def test_parentheses(self):
        self.assertEqual(last(normal("(" * 1023 + "a" + ")" * 1023)), success(0, "a"))
        self.assertEqual(last(normal("(" * 1023 + "\\x.x" + ")" * 1021)), [-2])
        self.assertEqual(last(normal("(" * 1023 + "a" + ")" * 1024)), [-2])
        self.assertEqual(last(normal("(" * 1024 + "a" + ")" * 1023)), [-2])

    def test_parentheses_left_open(self):
        self.assertEqual(last(normal("(" * 2047 + "a")), [-2])
        self.assertEqual(last(normal("a" + ")" * 2047)), [-2])
        self.assertEqual(last(normal("\\x." * 682)), [-2])

    def test_arguments(self):
        text = "a (" * 511 + "a" + ")" * 511
        self.assertEqual(last(normal(text)), success(0, text.replace("(a)", "a")))

    def test_arguments_without_blanks(self):
        written = "a (" * 681 + "a a" + ")" * 681
        self.assertEqual(last(normal("a(" * 682 + "a" + ")" * 682)), success(0, written))

    def test_functions(self):
        answer = last(normal("\\x." * 682 + "x"))
        self.assertEqual(answer[1], 0)
        self.assertEqual(bytes(answer[2:]).decode().count("\\"), 682)
        self.assertEqual(bytes(answer[2:]).decode().split(".")[-1], "f26")

    def test_functions_and_parentheses(self):
        text = "(\\x." * 409 + "x" + ")" * 409
        self.assertEqual(bytes(last(normal(text))[2:]).decode().split(".")[-1], "s15")

    def test_a_name_of_the_outermost_function(self):
        written = bytes(last(normal("\\y." + "\\x." * 681 + "y"))[2:]).decode()
        self.assertEqual(written.split(".")[-1], "a")

    def test_functions_applied(self):
        self.assertEqual(last(normal("(\\x.x)" * 340 + "a")), success(340, "a"))
        self.assertEqual(last(normal("(\\x.x)(" * 255 + "a" + ")" * 255)), success(255, "a"))
        self.assertEqual(last(normal("(\\y." + "\\x." * 600 + "y) a", most=0)), [-6, 1])

    def test_an_argument_put_deep_within(self):
        text = "(\\y." + "f (" * 400 + "y" + ")" * 400 + ") ((\\x.x) a)"
        self.assertEqual(last(normal(text)), success(2, "f (" * 399 + "f a" + ")" * 399))

    def test_an_argument_put_deep_within_functions(self):
        text = "(\\y." + "\\x." * 600 + "y) ((\\x.x) g)"
        written = bytes(last(normal(text))[2:]).decode()
        self.assertEqual(written.split(".")[-1], "g")
        self.assertEqual(written.split(".")[599], "\\c23")

    def test_deeper_by_what_is_defined(self):
        define_deep = define("d", "\\z." + "\\x." * 600 + "x")
        text = "\\x." * 600 + "d"
        self.assertEqual(bytes(last(define_deep, normal(text))[2:]).decode().count("\\"), 1201)
        deep = define("d", "\\f.\\x." + "f (" * 500 + "x" + ")" * 500)
        written = bytes(last(deep, normal("d f (d f (d f x))"))[2:]).decode()
        self.assertEqual(written, "f (" * 1499 + "f x" + ")" * 1499)

    def test_deeper_by_steps(self):
        # Ten times ten times ten uses of what t is applied to.
        calls = [define("ten", "\\f.\\x." + "f (" * 9 + "f x" + ")" * 9), define("t", "\\f.\\x.ten (ten (ten f)) x")]
        written = bytes(last(*calls, normal("t (\\x.g x) y"))[2:]).decode()
        self.assertEqual(written, "g (" * 999 + "g y" + ")" * 999)
        written = bytes(last(*calls, normal("t (\\x.\\y.x) a"))[2:]).decode()
        self.assertEqual(written.count("\\"), 1000)

    def test_a_long_row(self):
        row = " ".join(["x"] * 1024)
        self.assertEqual(last(normal(row)), success(0, row))
        self.assertEqual(last(define("b", sized(1024)), normal("b a")), success(1, " ".join(["a"] * 512)))


class DeepSame(unittest.TestCase):
    def are(self, answer, a, b, *before):
        self.assertEqual(last(*before, same(a, b)), [answer])
        self.assertEqual(last(*before, same(b, a)), [answer])

    def test_parentheses(self):
        self.are(1, "(" * 1023 + "a" + ")" * 1023, "a")
        self.are(0, "(" * 1023 + "a" + ")" * 1023, "b")
        self.are(-2, "(" * 1023 + "a" + ")" * 1023, "(" * 1023 + "a" + ")" * 1022)

    def test_functions(self):
        self.are(1, "\\x." * 682 + "x", "\\y." * 682 + "y")
        self.are(0, "\\x." * 682 + "x", "\\y." + "\\x." * 681 + "y")
        self.are(0, "\\x." * 682 + "x", "\\x." * 681 + "x")

    def test_arguments(self):
        self.are(1, "a(" * 682 + "a" + ")" * 682, "(a)(" + "a(" * 680 + "a a" + ")" * 681)
        self.are(0, "a(" * 682 + "a" + ")" * 682, "a(" * 682 + "b" + ")" * 682)

    def test_a_long_row(self):
        self.are(1, "a " * 1024, "a " * 1024)
        self.are(0, "a " * 1024, "b " + "a " * 1023)
        self.are(0, "a " * 1024, "a " * 1023 + "b")

    def test_deeper_by_what_is_defined(self):
        deep = [define("d", "\\x." * 680 + "x"), define("e", "\\y." * 600 + "\\x." * 80 + "x")]
        head = "\\z." * 680
        self.are(1, head + "d", head + "e", *deep)
        self.are(1, head + "d d d d", head + "d e d e", *deep)
        self.are(0, head + "d d d d", head + "d d d z", *deep)


class DeepNumber(unittest.TestCase):
    def test_a_text_as_it_is(self):
        self.assertEqual(last(number(numeral(680))), [680])
        self.assertEqual(last(number("\\f.\\x." + "f(" * 680 + "x" + ")" * 680)), [680])
        self.assertEqual(last(number("\\f.\\x." + "f(" * 680 + "f" + ")" * 680)), [-8])

    def test_parentheses(self):
        text = "\\f.\\x.f x"
        self.assertEqual(last(number("(" * 1019 + text + ")" * 1019)), [1])
        self.assertEqual(last(number("(" * 1019 + text + ")" * 1020)), [-2])

    def test_functions(self):
        self.assertEqual(last(number("\\x." * 682 + "x")), [-8])
        self.assertEqual(last(number("(\\x.x)" * 339 + "\\f.\\x.f x")), [1])

    def test_deeper_by_steps(self):
        ten = define("ten", numeral(10))
        self.assertEqual(last(ten, number("\\f.\\x.ten (ten (ten f)) x")), [1000])
        self.assertEqual(last(ten, number("\\f.ten (ten (ten f))")), [1000])


class DeepNames(unittest.TestCase):
    def test_parentheses(self):
        self.assertEqual(last(names("(" * 1023 + "a" + ")" * 1023)), listed("a"))
        self.assertEqual(last(names("(" * 1023 + "a" + ")" * 1024)), [-2])

    def test_functions(self):
        self.assertEqual(last(names("\\x." * 682 + "x")), [0])
        self.assertEqual(last(names("\\x." * 682 + "y")), listed("y"))
        # Each y behind a parenthesis belongs to the function around, but for the last one.
        self.assertEqual(last(names("(\\y." * 290 + "z y" + ") y" * 290)), listed("z y"))
        self.assertEqual(last(names("(\\y." * 290 + "z y" + ") y" * 289 + ")")), listed("z"))

    def test_arguments(self):
        self.assertEqual(last(names("a(" * 682 + "b" + ")" * 682)), listed("a b"))

    def test_a_long_row(self):
        letters = "abcdefghijklmnopqrstuvwxyz"
        row = " ".join([one + other for one in letters for other in letters])
        self.assertEqual(len(row), 2027)
        self.assertEqual(last(names(row)), listed(row))
        self.assertEqual(last(names("a " * 1024)), listed("a"))

    def test_deep_definitions(self):
        deep = define("d", "\\x." * 680 + "x")
        self.assertEqual(last(deep, names("\\z." * 680 + "d z a")), listed("a"))


if __name__ == "__main__":
    unittest.main()
