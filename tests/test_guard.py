"""Guarded lines, by the calls: which they are, and what may not happen to them."""

import unittest

from tests.helper import apply, dry, guard, history, load, load_told, origins, redo, row, same, shown, text, told, undo


class GuardCallTest(unittest.TestCase):
    def guards(self, lines, letters, how_many):
        with self.subTest(lines=lines, letters=letters):
            self.assertEqual(told(load(*lines), guard(letters))[1], [1, how_many])

    def is_refused(self, letters):
        with self.subTest(letters=letters):
            self.assertEqual(told(load("key", "a"), guard("key"), guard(letters), dry("delete ;"))[2:],
                             [[-4], [1, 0, 0, 0, 2, 0, 1, 2]])

    def test_how_many_lines_are_guarded(self):
        self.guards(["a", "key", "b"], "key", 1)
        self.guards(["key", "keykey", "akeyb", "ke", "kzey", "yek"], "key", 3)
        self.guards(["a", "b"], "c", 0)
        self.guards([], "c", 0)
        self.guards(["a"] * 24, "a", 24)

    def test_a_line_counts_once(self):
        self.guards(["aaaa", "aba", "b"], "a", 2)
        self.guards(["aaaa", "aa"], "aa", 2)

    def test_no_letters_guard_nothing(self):
        self.guards(["a", "", "b"], "", 0)

    def test_16_letters_and_17(self):
        self.guards(["abcdefghijklmnop", "abcdefghijklmno"], "abcdefghijklmnop", 1)
        self.is_refused("abcdefghijklmnopq")
        self.is_refused("a" * 8192)

    def test_9_letters_are_no_word_but_letters(self):
        self.guards(["abcdefghi"], "abcdefghi", 1)

    def test_the_scripts_own_words(self):
        for word in ("if", "all", "line", "none", "delete", "not", "stop"):
            self.guards(["a", "x" + word], word, 1)
            self.assertEqual(told(load("x" + word), guard(word), apply("delete ;"))[2], [-9])

    def test_a_byte_that_is_no_letter(self):
        for byte in (0, 9, 10, 32, 35, 48, 59, 65, 90, 96, 123, 255):
            self.is_refused([byte])
            self.is_refused([97, byte])
            self.is_refused([byte, 97])
        self.is_refused("key\n")

    def test_the_text_as_it_is_now_counts(self):
        self.assertEqual(told(load("a", "b"), apply("after key ;"), guard("key"), undo(), guard("key"), redo(),
                              guard("a"))[2::2], [[1, 2], [1, 0], [1, 1]])

    def test_guard_changes_neither_the_text_nor_its_history(self):
        calls = [load("a"), apply("after b ;"), apply("after c ;"), undo(), guard("a"), history(), shown(), origins(),
                 redo()]
        self.assertEqual(told(*calls)[5:], [[1, 1, 1, 2], [2, 4, 97, 10, 98, 10], [2, 1, 0, 0, 1], [1, 4, 2]])


class GuardStandsTest(unittest.TestCase):
    def test_the_last_guard_stands_instead_of_the_one_before(self):
        calls = [load("a", "b"), guard("a"), guard("b"), apply("if is b delete ;"), apply("if is a delete ;")]
        self.assertEqual(told(*calls)[3:], [[-9], [1, 1, 1, 0, 1, 0]])

    def test_also_if_no_line_has_the_letters(self):
        self.assertEqual(told(load("a"), guard("a"), guard("c"), apply("delete ;"))[2:], [[1, 0], [1, 0, 0, 0, 1, 0]])

    def test_without_letters_all_lines_may_go(self):
        self.assertEqual(told(load("a", ""), guard("a"), guard(""), dry("delete ;"), apply("delete ;"))[2:],
                         [[1, 0], [1, 0, 0, 0, 2, 0, 0, 2], [1, 0, 0, 0, 2, 0]])

    def test_load_takes_it_away(self):
        self.assertEqual(told(load("a"), guard("a"), load("a"), apply("delete ;"))[3], [1, 0, 0, 0, 1, 0])

    def test_a_refused_load_leaves_it(self):
        self.assertEqual(told(load("a"), guard("a"), load_told("a"), apply("delete ;"))[2:], [[-4], [-9]])

    def test_a_refused_guard_leaves_it(self):
        self.assertEqual(told(load("a", "b"), guard("a"), guard("B"), apply("if is a delete ;"),
                              apply("if is b delete ;"))[2:], [[-4], [-9], [1, 1, 1, 0, 1, 0]])

    def test_undo_and_redo_leave_it_and_are_not_hindered(self):
        calls = [load("a"), apply("after key ;"), apply("change b ;"), undo(), guard("key"), undo(), redo(), redo(),
                 undo(), apply("if is key delete ;")]
        self.assertEqual(told(*calls)[4:], [[1, 1], [1, 1, 0], [1, 2, 1], [1, 2, 2], [1, 2, 1], [-9]])


class HarmTest(unittest.TestCase):
    LINES = ("a", "key", "b")

    def is_harm(self, script, number, *lines):
        """Both dry and apply tell of it, and nothing is changed."""
        with self.subTest(script=script, lines=lines):
            lines = lines or self.LINES
            tried, made, after, steps = told(load(*lines), guard("key"), dry(script), apply(script), shown(), history())[2:]
            self.assertEqual((tried[0], tried[6], made), (1, number, [-9]))
            self.assertEqual((after, steps), ([len(lines)] + row(text(*lines)), [0, 0, len(lines)]))

    def is_no_harm(self, script, result, *lines):
        with self.subTest(script=script, lines=lines):
            lines = lines or self.LINES
            tried, made, after = told(load(*lines), guard("key"), dry(script), apply(script), shown())[2:]
            self.assertEqual((tried[:6], tried[6]), (made, 0))
            self.assertEqual(after, [len(result)] + row(text(*result)))

    def test_a_guarded_line_that_is_changed(self):
        self.is_harm("swap e x ;", 2)
        self.is_harm("if has key change x ;", 2)
        self.is_harm("first y none ;", 2)
        self.is_harm("if is key trade ;", 2)

    def test_also_if_the_letters_stay_in_it(self):
        self.is_harm("if is key change keykey ;", 2)
        self.is_harm("swap x none ;", 3, "a", "b", "xkey")

    def test_a_guarded_line_that_is_taken_out(self):
        self.is_harm("if is key delete ;", 2)
        self.is_harm("delete ;", 2)
        self.is_harm("if is key change x ; if is x delete ;", 2)

    def test_taken_out_and_put_again_alike(self):
        self.is_harm("if is key before key ; if is key delete ;", 2)
        self.is_harm("if is key after key ; if is key delete ;", 2)
        self.is_harm("if is key keep ; if is key bring ; if is key delete ;", 2)
        self.is_harm("if is a after key ; if is key delete ;", 2)

    def test_lines_put_ahead_and_behind(self):
        self.is_no_harm("if is key before x ; if is key after y ;", ["a", "x", "key", "y", "b"])
        self.is_no_harm("before key ; after key ;", ["key", "a", "key", "key", "key", "key", "key", "b", "key"])

    def test_changed_and_changed_back(self):
        self.is_no_harm("if is key change x ; if is x change key ;", ["a", "key", "b"])
        self.is_no_harm("if is key keep ; if is key trade ;", ["a", "key", "b"])

    def test_other_lines(self):
        self.is_no_harm("if is a delete ; if is b change x ;", ["key", "x"])
        self.is_no_harm("swap a x ;", ["x", "key", "ky", "kez"], "a", "key", "ky", "kez")

    def test_each_letter_right_behind_the_one_before(self):
        self.is_no_harm("delete ;", [], "kxey", "ke", "yek", "")

    def test_what_is_guarded_is_as_the_step_finds_it(self):
        self.is_no_harm("if is a change key ; if is key stop ; if is b delete ;", ["key", "key"])
        self.is_no_harm("if is a change key ; if line 1 delete ;", ["key", "b"])
        self.is_harm("if is a change key ; if is key delete ;", 2)

    def test_the_first_such_line_is_told(self):
        lines = ["a", "key", "b", "akey", "key"]
        self.is_harm("delete ;", 2, *lines)
        self.is_harm("swap a x ;", 4, *lines)
        self.is_harm("if last delete ;", 5, *lines)
        self.is_harm("if from 3 to 9 delete ;", 4, *lines)
        self.is_harm("if line 1 after x ; if line 1 after y ; if line 5 delete ;", 5, *lines)

    def test_it_is_the_number_in_the_text_now(self):
        calls = [load("a", "key"), guard("key"), apply("before x ;"), dry("if is key delete ;"), undo(),
                 dry("if is key delete ;")]
        self.assertEqual([answer[6] for answer in told(*calls)[3::2]], [4, 2])

    def test_a_line_that_gets_the_letters_is_guarded_from_the_next_step_on(self):
        calls = [load("a", "b"), guard("key"), apply("if is a change key ; if is b after akey ;"),
                 dry("delete ;"), apply("if is key delete ;"), apply("if is akey delete ;"), undo(),
                 apply("if is a change key ; if is key delete ;")]
        self.assertEqual(told(*calls)[1:], [[1, 0], [1, 3, 1, 1, 0, 1], [1, 0, 0, 0, 3, 0, 1, 3], [-9], [-9], [1, 2, 0],
                                            [1, 1, 1, 0, 1, 0]])

    def test_a_refused_step_leaves_what_was_undone(self):
        calls = [load("key"), guard("key"), apply("after b ;"), undo(), apply("delete ;"), history(), redo(), shown()]
        self.assertEqual(told(*calls)[4:], [[-9], [0, 1, 1], [1, 2, 1], [2, 6, 107, 101, 121, 10, 98, 10]])

    def test_too_much_comes_first(self):
        harming = "if is key change aaaaaaaa ; swap a aaaaaaaa ;"
        self.assertEqual(told(load("key"), guard("key"), dry(harming), apply(harming))[2:], [[-7], [-7]])
        harming = "if is key delete ; after x ;"
        self.assertEqual(told(load("key", *["b"] * 13), guard("key"), dry(harming), apply(harming))[2:], [[-7], [-7]])

    def test_20_steps_come_first(self):
        calls = [load("key", *["b"] * 13), guard("key")] + [apply("")] * 20
        calls += [apply("if is key delete ;"), apply("delete"), apply("if is key delete ; after x ;"), undo(),
                  apply("if is key delete ; after x ;"), apply("if is key delete ;")]
        self.assertEqual(told(*calls)[22:], [[-6], [0, 3, 6], [-6], [1, 14, 19], [-7], [-9]])

    def test_a_script_that_is_not_right_comes_first(self):
        self.assertEqual(told(load("key"), guard("key"), apply("delete ; x"), dry("delete ; !"))[2:],
                         [[0, 3, 9], [0, 2, 9]])

    def test_same_is_not_hindered(self):
        self.assertEqual(told(load("key"), guard("key"), same("delete ;", "if is key delete ;"), shown())[2:],
                         [[1, 1], [1, 4, 107, 101, 121, 10]])


if __name__ == "__main__":
    unittest.main()
