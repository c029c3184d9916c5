"""The calls as one list, their answers, and which refusal comes first."""

import unittest

from lineedits.edits import answers
from tests.helper import apply, dry, load, load_told, redo, row, told, undo


class Untouchable(list):
    """A list that can be read, but not changed, not for a while either."""

    def refuse(self, *values, **named):
        raise AssertionError("what was handed in was changed")

    append = extend = insert = remove = pop = clear = sort = reverse = refuse
    __setitem__ = __delitem__ = __iadd__ = __imul__ = refuse


WORKED = [
    (load("a", "key", "b"), [1, 3]),
    (dry("swap e x ;"), [1, 3, 2, 1, 0, 0, 0, 2]),
    (apply("if is a after q ; if is b delete ;"), [1, 3, 2, 0, 1, 1]),
    (apply("if is q change z ;"), [1, 3, 2, 1, 0, 0]),
    (undo(), [1, 3, 1]),
    (redo(), [1, 3, 2]),
    (undo(), [1, 3, 1]),
]


class InterfaceTest(unittest.TestCase):
    def test_worked(self):
        self.assertEqual(told(*[call for call, answer in WORKED]), [answer for call, answer in WORKED])

    def test_each_answer_has_how_many_numbers_it_has_before_it(self):
        calls = [0, 2, 97, 10, 2, 0, 1, 4, 107, 101, 101, 112, 3, 1, 6] + row("keep ;")[1:] + [3, 4]
        self.assertEqual(answers(calls), [2, 1, 1, 8, 1, 1, 1, 0, 0, 0, 0, 0, 3, 0, 3, 4, 1, -2,
                                          6, 1, 1, 1, 0, 0, 0, 3, 1, 1, 0, 3, 1, 1, 1])

    def test_a_list_of_ints(self):
        answered = answers([number for call, answer in WORKED for number in call])
        self.assertIs(type(answered), list)
        self.assertEqual({type(number) for number in answered}, {int})

    def test_what_is_handed_in_stays_as_it_was(self):
        calls = [number for call, answer in WORKED for number in call]
        kept = list(calls)
        answers(Untouchable(calls))
        answers(calls)
        self.assertEqual(calls, kept)

    def test_a_second_time_is_as_the_first(self):
        calls = [number for call, answer in WORKED for number in call]
        first = answers(calls)
        self.assertEqual(answers(undo()), [1, -1])
        self.assertEqual(answers(calls), first)

    def test_what_was_answered_is_the_callers_own(self):
        calls = [number for call, answer in WORKED for number in call]
        first = answers(calls)
        kept = list(first)
        first.clear()
        self.assertEqual(answers(calls), kept)

    def test_40_calls(self):
        calls = [load(*["abcdefgh"] * 24)] + [dry("swap a none ;")] * 39
        self.assertEqual(told(*calls), [[1, 24]] + [[1, 24, 0, 24, 0, 0, 0, 48]] * 39)

    def test_rows_of_8192_numbers(self):
        self.assertEqual(told(load("a"), load_told([97] * 8192), apply([32] * 8192), dry([59] * 8192), undo()),
                         [[1, 1], [-4], [0, 1, 4096], [0, 1, 4096], [-2]])


class NoTextTest(unittest.TestCase):
    def test_each_call_but_load_is_refused(self):
        shown, origins, same, guard, history = [5], [6], [7] + row("") + row(""), [8] + row("key"), [9]
        for call in (apply("keep ;"), dry("keep ;"), undo(), redo(), shown, origins, same, guard, history):
            with self.subTest(call=call):
                self.assertEqual(told(call, load("a"), undo()), [[-1], [1, 1], [-2]])

    def test_ahead_of_all_else(self):
        for script in ("delete", "!", "skip 0 ;", "keep ;" * 17, " " * 5000):
            with self.subTest(script=script):
                self.assertEqual(told(apply(script), dry(script)), [[-1], [-1]])
        self.assertEqual(told([7] + row("!") + row("delete"), [8] + row("A b")), [[-1], [-1]])

    def test_the_rows_of_refused_calls_are_passed_over(self):
        self.assertEqual(told([7] + row("keep ;") + row([3, 3]), [8] + row([4, 4, 4]), load("a")), [[-1], [-1], [1, 1]])


class OrderTest(unittest.TestCase):
    def test_a_script_that_is_not_right_changes_nothing(self):
        self.assertEqual(told(load("a"), apply("after b ;"), undo(), apply("after"), dry("x"), redo(), redo()),
                         [[1, 1], [1, 2, 1, 0, 0, 1], [1, 1, 0], [0, 3, 5], [0, 3, 0], [1, 2, 1], [-2]])

    def test_a_fault_comes_ahead_of_20_steps(self):
        calls = [load("a")] + [apply("")] * 20 + [apply("delete"), apply("!"), apply("skip 0;"), apply("delete ;")]
        self.assertEqual(told(*calls)[21:], [[0, 3, 6], [0, 2, 0], [0, 7, 5], [-6]])

    def test_20_steps_come_ahead_of_too_much(self):
        calls = [load("a" * 16)] + [apply("")] * 20 + [apply("swap a bb ;"), dry("swap a bb ;"), undo(),
                                                       apply("swap a bb ;")]
        self.assertEqual(told(*calls)[21:], [[-6], [-7], [1, 1, 19], [-7]])

    def test_a_fault_comes_ahead_of_too_much(self):
        self.assertEqual(told(load("a" * 16), apply("swap a bb ; delete"), dry("swap a bb ; delete"))[1:],
                         [[0, 3, 18], [0, 3, 18]])

    def test_too_much_changes_nothing(self):
        self.assertEqual(told(load(*["a"] * 20), apply("if line 1 after b ;"), undo(), apply("after c ;"),
                              dry("after c ;"), redo(), undo(), undo())[3:],
                         [[-7], [-7], [1, 21, 1], [1, 20, 0], [-2]])

    def test_a_dry_one_changes_nothing(self):
        self.assertEqual(told(load("a"), apply("after b ;"), undo(), dry("delete ;"), redo(), dry("delete ;"), undo(),
                              undo())[3:],
                         [[1, 0, 0, 0, 1, 0, 0, 1], [1, 2, 1], [1, 0, 0, 0, 2, 0, 0, 2], [1, 1, 0], [-2]])


if __name__ == "__main__":
    unittest.main()
