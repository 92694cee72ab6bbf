"""How a line of calls is read, and how its answers are laid one behind another."""

import unittest

from functionterms.terms import UnknownCall, answers
from helper import begin, define, last, listed, names, normal, number, numeral, same, success, told

ALL_SIX = [
    begin(), define("two", numeral(2)), normal("two a", 9, 99), same("two", "\\a.\\b.a (a b)"), number("two two", 9),
    names("two b a b", 9)]
THEIR_ANSWERS = [[0], [0], success(1, "\\b.a (a b)"), [1], [4], listed("b a")]


class Layout(unittest.TestCase):
    def test_begin(self):
        self.assertEqual(answers([0]), [1, 0])

    def test_define(self):
        self.assertEqual(answers([1, 1, 105, 4, 92, 120, 46, 120]), [1, 0])

    def test_refused_define(self):
        self.assertEqual(answers([1, 0, 1, 97]), [1, -1])

    def test_normal(self):
        self.assertEqual(answers([2, 9, 9, 1, 97]), [3, 1, 0, 97])

    def test_refusals_of_normal(self):
        self.assertEqual(answers([2, 9, 9, 0]), [1, -2])
        self.assertEqual(answers([2, 9, 0, 1, 97]), [2, -6, 0])

    def test_same(self):
        self.assertEqual(answers([3, 1, 97, 1, 97]), [1, 1])
        self.assertEqual(answers([3, 1, 97, 3, 97, 32, 97]), [1, 0])
        self.assertEqual(answers([3, 0, 1, 97]), [1, -2])

    def test_number(self):
        self.assertEqual(answers([4, 0, 9, 92, 102, 46, 92, 120, 46, 102, 32, 120]), [1, 1])
        self.assertEqual(answers([4, 9, 1, 97]), [1, -8])
        self.assertEqual(answers([4, 9, 0]), [1, -2])
        self.assertEqual(answers(number("(\\x.x) a", 0)), [1, -4])

    def test_names(self):
        self.assertEqual(answers([5, 9, 3, 98, 32, 97]), [4, 3, 98, 32, 97])
        self.assertEqual(answers([5, 9, 4, 92, 97, 46, 97]), [1, 0])
        self.assertEqual(answers([5, 2, 3, 98, 32, 97]), [1, -6])
        self.assertEqual(answers([5, 9, 0]), [1, -2])

    def test_several_calls(self):
        calls = begin() + define("i", "\\x.x") + normal("i a") + define("1", "x") + normal("b") + begin()
        self.assertEqual(answers(calls), [1, 0, 1, 0, 3, 1, 1, 97, 1, -1, 3, 1, 0, 98, 1, 0])

    def test_longest_rows_are_passed_over_whole(self):
        self.assertEqual(told(define("a" * 20, "b" * 3000), normal("c" * 3000), begin()), [[-1], [-1], [0]])
        self.assertEqual(told(same("a" * 3000, "b" * 3000), begin()), [[-1], [0]])
        self.assertEqual(told(same("a" * 3000, "b"), number("c" * 3000), names("d" * 3000)), [[-1]] * 3)
        self.assertEqual(told(same("a", "b" * 3000), names("d")), [[-1], listed("d")])

    def test_numbers_that_look_like_calls(self):
        self.assertEqual(answers([1, 2, 0, 1, 3, 2, 1, 0, 0]), [1, -1, 1, 0])
        self.assertEqual(answers([3, 2, 3, 4, 1, 5, 0]), [1, -2, 1, 0])
        self.assertEqual(answers([4, 4, 2, 5, 3, 5, 5, 1, 3, 0]), [1, -2, 1, -2, 1, 0])

    def test_a_call_that_is_none(self):
        for call in (6, -1):
            with self.assertRaises(UnknownCall):
                answers([call])

    def test_sixty_calls(self):
        self.assertEqual(answers([0] * 60), [1, 0] * 60)

    def test_eighteen_normals(self):
        self.assertEqual(told(*[normal("(\\x.x) a")] * 18), [success(1, "a")] * 18)

    def test_sixty_calls_of_the_others(self):
        self.assertEqual(told(*[same("\\x.x", "\\y.y")] * 60), [[1]] * 60)
        self.assertEqual(told(*[number("(\\x.x) (\\f.\\x.f x)")] * 60), [[1]] * 60)
        self.assertEqual(told(*[names("b (\\x.a x)")] * 60), [listed("b a")] * 60)

    def test_all_six_in_one_list(self):
        self.assertEqual(told(*ALL_SIX), THEIR_ANSWERS)
        self.assertEqual(told(*reversed(ALL_SIX)), [
            listed("two b a"), [-8], [0], success(0, "two a"), [0], [0]])

    def test_sixty_of_all_six(self):
        self.assertEqual(told(*ALL_SIX * 10), THEIR_ANSWERS * 10)

    def test_refusals_between_change_nothing(self):
        refused = [
            define("two", "\\x."), define("2", "\\x.x"), define("two", "x"), normal("(", 9, 9), normal("two two", 0, 9),
            normal("two", 9, 0), same("(", "two"), same("two" * 700, "two"), number(")"), number("two two", 0),
            number("two a"), names("two ("), names("a", 0)]
        answered = told(*ALL_SIX, *refused, *ALL_SIX[2:])
        self.assertEqual(answered[:6] + answered[-4:], THEIR_ANSWERS + THEIR_ANSWERS[2:])
        self.assertEqual(answered[6:-4], [
            [-2], [-1], [-3], [-2], [-4, 0], [-6, 0], [-2], [-1], [-2], [-4], [-8], [-2], [-6]])

    def test_whole_numbers_and_no_truth_values(self):
        answered = answers([told_number for call in ALL_SIX for told_number in call] + normal("i i", steps=0)
                           + same("a", "b") + same("a", "a") + number("\\f.\\x.x") + names("\\x.x"))
        self.assertEqual([kind for kind in map(type, answered) if kind is not int], [])
        self.assertIs(type(answered), list)


class NothingKept(unittest.TestCase):
    CALLS = (
        define("i", "\\x.x") + normal("i (\\x.\\y.x y z) a") + define("i", "i i") + normal("i") + same("i", "i i")
        + number("i i \\f.\\x.f (i x)") + names("i a i b") + begin() + names("i a") + same("i", "\\x.x"))

    def test_list_is_as_it_was(self):
        calls = list(self.CALLS)
        answers(calls)
        self.assertEqual(calls, self.CALLS)

    def test_list_is_not_changed_for_a_while(self):
        class Fixed(list):
            def refuse(self, *told):
                raise AssertionError("the list was changed")
            append = extend = insert = pop = remove = clear = sort = reverse = refuse
            __setitem__ = __delitem__ = __iadd__ = __imul__ = refuse
        self.assertEqual(answers(Fixed(self.CALLS)), answers(self.CALLS))

    def test_second_time_answers_as_the_first(self):
        self.assertEqual(answers(self.CALLS), answers(self.CALLS))

    def test_names_are_gone_the_next_time(self):
        answers(define("i", "\\x.x"))
        self.assertEqual(last(normal("i a")), success(0, "i a"))
        self.assertEqual(last(define("j", "i")), [-3])
        self.assertEqual(told(names("i"), same("i", "\\x.x"), number("i \\f.\\x.x")), [listed("i"), [0], [-8]])

    def test_an_answer_that_is_changed_changes_no_later_one(self):
        first = answers(self.CALLS)
        kept = list(first)
        first.clear()
        self.assertEqual(answers(self.CALLS), kept)


if __name__ == "__main__":
    unittest.main()
