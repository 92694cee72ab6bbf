"""How a line of calls is read, and how its answers are laid one behind another."""

import unittest

from functionterms.terms import answers
from helper import begin, define, last, normal, success, told


class Layout(unittest.TestCase):
    def test_begin(self):
        self.assertEqual(answers([0]), [1, 0])

    def test_define(self):
        self.assertEqual(answers([1, 1, 105, 4, 92, 120, 46, 120]), [1, 0])

    def test_refused_define(self):
        self.assertEqual(answers([1, 0, 1, 97]), [1, -1])

    def test_normal(self):
        self.assertEqual(answers([2, 9, 9, 1, 97]), [3, 1, 0, 97])

    def test_refusals_of_normal(self):
        self.assertEqual(answers([2, 9, 9, 0]), [1, -2])
        self.assertEqual(answers([2, 9, 0, 1, 97]), [2, -6, 0])

    def test_several_calls(self):
        calls = begin() + define("i", "\\x.x") + normal("i a") + define("1", "x") + normal("b") + begin()
        self.assertEqual(answers(calls), [1, 0, 1, 0, 3, 1, 1, 97, 1, -1, 3, 1, 0, 98, 1, 0])

    def test_longest_rows_are_passed_over_whole(self):
        self.assertEqual(told(define("a" * 20, "b" * 3000), normal("c" * 3000), begin()), [[-1], [-1], [0]])

    def test_numbers_that_look_like_calls(self):
        self.assertEqual(answers([1, 2, 0, 1, 3, 2, 1, 0, 0]), [1, -1, 1, 0])

    def test_sixty_calls(self):
        self.assertEqual(answers([0] * 60), [1, 0] * 60)

    def test_eighteen_normals(self):
        self.assertEqual(told(*[normal("(\\x.x) a")] * 18), [success(1, "a")] * 18)

    def test_whole_numbers_and_no_truth_values(self):
        answered = answers(begin() + define("i", "\\x.x") + normal("i \\y.y") + normal("i i", steps=0))
        self.assertEqual([kind for kind in map(type, answered) if kind is not int], [])
        self.assertIs(type(answered), list)


class NothingKept(unittest.TestCase):
    CALLS = define("i", "\\x.x") + normal("i (\\x.\\y.x y z) a") + define("i", "i i") + normal("i") + begin()

    def test_list_is_as_it_was(self):
        calls = list(self.CALLS)
        answers(calls)
        self.assertEqual(calls, self.CALLS)

    def test_list_is_not_changed_for_a_while(self):
        class Fixed(list):
            def refuse(self, *told):
                raise AssertionError("the list was changed")
            append = extend = insert = pop = remove = clear = sort = reverse = refuse
            __setitem__ = __delitem__ = __iadd__ = __imul__ = refuse
        self.assertEqual(answers(Fixed(self.CALLS)), answers(self.CALLS))

    def test_second_time_answers_as_the_first(self):
        self.assertEqual(answers(self.CALLS), answers(self.CALLS))

    def test_names_are_gone_the_next_time(self):
        answers(define("i", "\\x.x"))
        self.assertEqual(last(normal("i a")), success(0, "i a"))
        self.assertEqual(last(define("j", "i")), [-3])

    def test_an_answer_that_is_changed_changes_no_later_one(self):
        first = answers(self.CALLS)
        kept = list(first)
        first.clear()
        self.assertEqual(answers(self.CALLS), kept)


if __name__ == "__main__":
    unittest.main()
