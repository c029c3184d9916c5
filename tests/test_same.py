"""Whether two scripts come to the same on all that the text has been."""

import unittest

from tests.helper import apply, dry, guard, history, load, origins, redo, same, shown, told, undo

TOO_LONG = " " * 4097


class SameCase(unittest.TestCase):
    def is_same(self, lines, a, b):
        self.are_told(lines, a, b, [1, 1])

    def differs(self, lines, a, b):
        self.are_told(lines, a, b, [0, 0, 0])

    def are_told(self, lines, a, b, answer):
        with self.subTest(lines=lines, a=a, b=b):
            self.assertEqual(told(load(*lines), same(a, b), same(b, a))[1:], [answer, answer])


class FaultTest(SameCase):
    def answered(self, a, b, answer):
        with self.subTest(a=a, b=b):
            self.assertEqual(told(load("a"), same(a, b), history())[1:], [answer, [0, 0, 1]])

    def test_each_of_them(self):
        for script, fault in (("delete", [0, 3, 6]), ("keep ; !", [0, 2, 7]), ("skip 0 ;", [0, 7, 5]),
                              ("keep ;" * 17, [0, 4, 96]), (TOO_LONG, [0, 1, 4096])):
            self.answered(script, "", fault)
            self.answered("", script, fault)
            self.answered(script, script, fault)

    def test_a_is_looked_at_first(self):
        self.answered("delete", "!", [0, 3, 6])
        self.answered("!", "delete", [0, 2, 0])
        self.answered("skip 0 ;", TOO_LONG, [0, 7, 5])
        self.answered("keep ;" * 17, "x", [0, 4, 96])

    def test_a_fault_of_b_comes_ahead_of_a_difference(self):
        self.answered("delete ;", "change b ; delete", [0, 3, 17])


class FirstTextTest(SameCase):
    def test_the_very_same(self):
        self.is_same("ab", "if is a delete ;", "if is a delete ;")
        self.is_same("ab", "", "")

    def test_unlike_in_words(self):
        self.is_same("ab", "", "keep ; stop ;")
        self.is_same("ab", "", "# nothing\n")
        self.is_same("ab", "if is a delete ;", "if line 1 delete ;")
        self.is_same("ab", "delete ;", "if all delete ; after x ;")
        self.is_same("ab", "change x ;", "before x ; delete ;")
        self.is_same("ab", "if is a after b ;", "if last before b ;")
        self.is_same("ab", "if not is a delete ;", "if last delete ;")
        self.is_same(["aa"], "swap a b ;", "first a b ; first a b ;")

    def test_the_lines_of_the_result_alone_count(self):
        self.is_same("aa", "if line 1 delete ;", "if line 2 delete ;")
        self.is_same("a", "keep ; change b ; trade ;", "keep ;")

    def test_a_difference(self):
        self.differs("ab", "if is a delete ;", "if is b delete ;")
        self.differs("ab", "", "if last after b ;")
        self.differs("ab", "before x ;", "after x ;")
        self.differs("ab", "change c ;", "change d ;")

    def test_lines_without_letters_are_lines(self):
        self.differs("a", "swap a none ;", "delete ;")
        self.differs(["a", ""], "if last bring ;", "")

    def test_lines_are_held_against_each_other_whole(self):
        self.differs(["ab"], "change a ; after b ;", "")

    def test_the_empty_text(self):
        self.is_same([], "delete ;", "change x ;")


class TooMuchTest(SameCase):
    LONG = "first a bb ;"
    MANY = "after b ;" * 16

    def test_both_times(self):
        self.is_same(["a" * 16], self.LONG, self.LONG)
        self.is_same(["a" * 16], self.LONG, "swap a cc ;")
        self.is_same(["a" * 16] * 4, self.LONG, self.MANY)
        self.is_same("abcd", self.MANY, "before c ;" * 16)

    def test_once(self):
        self.differs(["a" * 16], self.LONG, "")
        self.differs("abcd", self.MANY, "")
        self.differs(["a" * 16], self.LONG, "delete ;")

    def test_too_much_is_not_as_if_nothing_came(self):
        self.differs("abcd", self.MANY, "delete ;")

    def test_a_result_of_25_to_60_lines_counts_as_it_is(self):
        twelve = ["a"] * 12
        self.is_same(twelve, "after b ; after c ;", "after b ; if all after c ;")
        self.differs(twelve, "after b ; after c ;", "after c ; after b ;")
        self.differs(twelve, "after b ;" * 4, "after b ;" * 3 + "after c ;")
        self.is_same(twelve, "after b ;" * 4, "if not last after b ;" * 4 + "if last after b ;" * 4)
        self.differs(["a"] * 24, "", "if last after b ;")
        self.differs(["a"] * 24, "if last after b ;", "if last after c ;")
        self.is_same(["a"] * 24, "if last after b ;", "if line 24 after b ;")

    def test_60_lines_and_61(self):
        twelve = ["a"] * 12
        self.differs(twelve, "after b ;" * 4, "after b ;" * 4 + "if last after b ;")
        self.differs(twelve, "after b ;" * 4 + "if last after b ;", "after b ;" * 3)
        self.is_same(twelve, "after b ;" * 4 + "if last after b ;", "after c ;" * 5)


class HistoryTest(unittest.TestCase):
    # The texts are a; a b; a b b; a b b b.
    CALLS = [load("a")] + [apply("if last after b ;")] * 3

    def answers_to(self, a, b, *calls):
        return told(*(self.CALLS + list(calls) + [same(a, b)]))[-1]

    def test_on_all_texts(self):
        self.assertEqual(self.answers_to("if is c delete ;", ""), [1, 4])
        self.assertEqual(self.answers_to("if is b delete ;", "if not line 1 delete ;"), [1, 4])

    def test_a_difference_on_the_first_text(self):
        self.assertEqual(self.answers_to("if last after c ;", "if last after d ;"), [0, 0, 0])
        self.assertEqual(self.answers_to("if line 1 delete ;", "if line 2 delete ;"), [0, 0, 0])

    def test_a_difference_on_the_first_text_alone(self):
        self.assertEqual(told(load("a"), apply("change b ;"), same("if is a delete ;", ""))[2], [0, 0, 0])

    def test_a_difference_on_a_middle_one(self):
        self.assertEqual(self.answers_to("if line 2 delete ;", ""), [0, 0, 1])
        self.assertEqual(self.answers_to("if line 3 delete ;", ""), [0, 0, 2])

    def test_a_difference_on_a_middle_one_alone(self):
        calls = [load("a"), apply("change b ;"), apply("change a ;"), same("if is b delete ;", "")]
        self.assertEqual(told(*calls)[3], [0, 0, 1])

    def test_a_difference_on_the_last(self):
        self.assertEqual(self.answers_to("if line 4 delete ;", ""), [0, 0, 3])
        self.assertEqual(self.answers_to("if line 5 delete ;", ""), [1, 4])

    def test_those_undone_do_not_count(self):
        self.assertEqual(self.answers_to("if line 4 delete ;", "", undo()), [1, 3])
        self.assertEqual(self.answers_to("if line 4 delete ;", "", undo(), undo(), undo()), [1, 1])
        self.assertEqual(self.answers_to("if line 4 delete ;", "", undo(), redo()), [0, 0, 3])
        self.assertEqual(self.answers_to("if line 4 delete ;", "", undo(), apply("delete ;")), [1, 4])

    def test_those_before_a_load_do_not_count(self):
        self.assertEqual(self.answers_to("if is a delete ;", "", load("b", "b", "b")), [1, 1])

    def test_too_much_on_one_of_the_texts(self):
        swap, first = "if line 2 swap b cccccccc ; swap c dddddddd ;", "if line 2 swap b cccccccc ; swap c eeeeeeee ;"
        self.assertEqual(self.answers_to(swap, first), [1, 4])
        self.assertEqual(self.answers_to(swap, ""), [0, 0, 1])
        self.assertEqual(self.answers_to("after c ;" * 16, "if last after c ;" * 16), [0, 0, 1])

    def test_20_steps(self):
        calls = [load("a")] + [apply("if last after b ;")] * 20
        calls += [same("if line 21 delete ;", ""), same("if line 22 delete ;", "")]
        self.assertEqual(told(*calls)[21:], [[0, 0, 20], [1, 21]])

    def test_nothing_is_changed(self):
        look = [shown(), origins(), history(), dry("swap b c ;")]
        calls = self.CALLS + [undo(), guard("b")]
        for pair in (("", ""), ("delete ;", ""), ("x", ""), ("", "x"), ("change c ;", "change c ;")):
            answered = told(*(calls + look + [same(*pair)] + look + [redo()]))
            self.assertEqual(answered[6:10], answered[11:15])
            self.assertEqual(answered[15], [1, 4, 3])


if __name__ == "__main__":
    unittest.main()
