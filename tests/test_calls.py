"""The calls as one list, their answers, and which refusal comes first."""

import unittest

from lineedits.edits import answers
from tests.helper import apply, dry, guard, history, load, load_told, origins, redo, row, same, shown, told, undo


class Untouchable(list):
    """A list that can be read, but not changed, not for a while either."""

    def refuse(self, *values, **named):
        raise AssertionError("what was handed in was changed")

    append = extend = insert = remove = pop = clear = sort = reverse = refuse
    __setitem__ = __delitem__ = __iadd__ = __imul__ = refuse


WORKED = [
    (load("a", "key", "b"), [1, 3]),
    (guard("key"), [1, 1]),
    (dry("swap e x ;"), [1, 3, 2, 1, 0, 0, 2, 2]),
    (apply("swap e x ;"), [-9]),
    (apply("if is a after q ; if is b delete ;"), [1, 3, 2, 0, 1, 1]),
    (shown(), [3, 8, 97, 10, 113, 10, 107, 101, 121, 10]),
    (origins(), [3, 1, 0, 0, 1, 2, 0]),
    (apply("if is q change z ;"), [1, 3, 2, 1, 0, 0]),
    (origins(), [3, 1, 0, 0, 2, 2, 0]),
    (history(), [2, 0, 3, 3, 3]),
    (undo(), [1, 3, 1]),
    (redo(), [1, 3, 2]),
    (undo(), [1, 3, 1]),
    (same("if is q delete ;", "if line 2 delete ;"), [0, 0, 0]),
    (same("if is zz delete ;", "if line 9 delete ;"), [1, 2]),
]


class InterfaceTest(unittest.TestCase):
    def test_worked(self):
        self.assertEqual(told(*[call for call, answer in WORKED]), [answer for call, answer in WORKED])

    def test_each_answer_has_how_many_numbers_it_has_before_it(self):
        calls = [0, 2, 97, 10, 2, 0, 1, 4, 107, 101, 101, 112, 3, 1, 6] + row("keep ;")[1:] + [3, 4]
        self.assertEqual(answers(calls), [2, 1, 1, 8, 1, 1, 1, 0, 0, 0, 0, 0, 3, 0, 3, 4, 1, -2,
                                          6, 1, 1, 1, 0, 0, 0, 3, 1, 1, 0, 3, 1, 1, 1])

    def test_a_call_with_two_rows(self):
        calls = [0, 2, 97, 10, 7, 6] + row("keep ;")[1:] + [0, 7, 0, 6] + row("stop ;")[1:] + [7, 0, 1, 33, 8, 1, 97, 9]
        self.assertEqual(answers(calls), [2, 1, 1, 2, 1, 1, 2, 1, 1, 3, 0, 2, 0, 2, 1, 1, 3, 0, 0, 1])

    def test_the_longest_list(self):
        longest = [32] * 8192
        calls = [load("a")] + [same(longest, longest)] * 3 + [same(longest, "!"), guard(longest), shown()]
        self.assertEqual(told(*calls), [[1, 1]] + [[0, 1, 4096]] * 4 + [[-4], [1, 2, 97, 10]])

    def test_a_list_of_ints(self):
        answered = answers([number for call, answer in WORKED for number in call])
        self.assertIs(type(answered), list)
        self.assertEqual({type(number) for number in answered}, {int})

    def test_what_is_handed_in_stays_as_it_was(self):
        calls = [number for call, answer in WORKED for number in call]
        kept = list(calls)
        answers(Untouchable(calls))
        answers(calls)
        self.assertEqual(calls, kept)

    def test_a_second_time_is_as_the_first(self):
        calls = [number for call, answer in WORKED for number in call]
        first = answers(calls)
        self.assertEqual(answers(undo()), [1, -1])
        self.assertEqual(answers(calls), first)

    def test_what_was_answered_is_the_callers_own(self):
        calls = [number for call, answer in WORKED for number in call]
        first = answers(calls)
        kept = list(first)
        first.clear()
        self.assertEqual(answers(calls), kept)

    def test_40_calls(self):
        calls = [load(*["abcdefgh"] * 24)] + [dry("swap a none ;")] * 39
        self.assertEqual(told(*calls), [[1, 24]] + [[1, 24, 0, 24, 0, 0, 0, 48]] * 39)

    def test_40_calls_with_the_longest_answers(self):
        text = ["abcdefghijklmnop"] * 24
        calls = [load(*text)] + [apply("")] * 20 + [shown(), origins(), history()] * 6 + [shown()]
        answered = told(*calls)[21:]
        self.assertEqual(answered[0], [24, 408] + ([*range(97, 113), 10]) * 24)
        self.assertEqual(answered[1], [24] + [number for line in range(1, 25) for number in (line, 0)])
        self.assertEqual(answered[2], [20, 0] + [24] * 21)
        self.assertEqual(answered, answered[:3] * 6 + answered[:1])

    def test_rows_of_8192_numbers(self):
        self.assertEqual(told(load("a"), load_told([97] * 8192), apply([32] * 8192), dry([59] * 8192), undo()),
                         [[1, 1], [-4], [0, 1, 4096], [0, 1, 4096], [-2]])


class NoTextTest(unittest.TestCase):
    def test_each_call_but_load_is_refused(self):
        for call in (apply("keep ;"), dry("keep ;"), undo(), redo(), shown(), origins(), same("", "keep ;"),
                     guard("key"), guard(""), history()):
            with self.subTest(call=call):
                self.assertEqual(told(call, load("a"), undo()), [[-1], [1, 1], [-2]])
                self.assertEqual(told(load_told("x"), call, call), [[-4], [-1], [-1]])

    def test_a_refused_guard_guards_nothing(self):
        self.assertEqual(told(guard("a"), load("a"), apply("delete ;")), [[-1], [1, 1], [1, 0, 0, 0, 1, 0]])

    def test_ahead_of_all_else(self):
        for script in ("delete", "!", "skip 0 ;", "keep ;" * 17, " " * 5000):
            with self.subTest(script=script):
                self.assertEqual(told(apply(script), dry(script)), [[-1], [-1]])
        self.assertEqual(told(same("!", "delete"), same("", "!"), guard("A b"), guard("a" * 17)), [[-1]] * 4)

    def test_the_rows_of_refused_calls_are_passed_over(self):
        self.assertEqual(told(same("keep ;", [3, 3]), guard([4, 4, 4]), load("a")), [[-1], [-1], [1, 1]])


class OrderTest(unittest.TestCase):
    def test_a_script_that_is_not_right_changes_nothing(self):
        self.assertEqual(told(load("a"), apply("after b ;"), undo(), apply("after"), dry("x"), redo(), redo()),
                         [[1, 1], [1, 2, 1, 0, 0, 1], [1, 1, 0], [0, 3, 5], [0, 3, 0], [1, 2, 1], [-2]])

    def test_a_fault_comes_ahead_of_20_steps(self):
        calls = [load("a")] + [apply("")] * 20 + [apply("delete"), apply("!"), apply("skip 0;"), apply("delete ;")]
        self.assertEqual(told(*calls)[21:], [[0, 3, 6], [0, 2, 0], [0, 7, 5], [-6]])

    def test_20_steps_come_ahead_of_too_much(self):
        calls = [load("a" * 16)] + [apply("")] * 20 + [apply("swap a bb ;"), dry("swap a bb ;"), undo(),
                                                       apply("swap a bb ;")]
        self.assertEqual(told(*calls)[21:], [[-6], [-7], [1, 1, 19], [-7]])

    def test_a_fault_comes_ahead_of_too_much(self):
        self.assertEqual(told(load("a" * 16), apply("swap a bb ; delete"), dry("swap a bb ; delete"))[1:],
                         [[0, 3, 18], [0, 3, 18]])

    def test_too_much_changes_nothing(self):
        self.assertEqual(told(load(*["a"] * 20), apply("if line 1 after b ;"), undo(), apply("after c ;"),
                              dry("after c ;"), redo(), undo(), undo())[3:],
                         [[-7], [-7], [1, 21, 1], [1, 20, 0], [-2]])

    def test_a_dry_one_changes_nothing(self):
        self.assertEqual(told(load("a"), apply("after b ;"), undo(), dry("delete ;"), redo(), dry("delete ;"), undo(),
                              undo())[3:],
                         [[1, 0, 0, 0, 1, 0, 0, 1], [1, 2, 1], [1, 0, 0, 0, 2, 0, 0, 2], [1, 1, 0], [-2]])


if __name__ == "__main__":
    unittest.main()
