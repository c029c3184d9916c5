"""What shown, origins and history tell of the text and its steps."""

import unittest

from tests.helper import apply, dry, guard, history, load, load_told, origins, redo, row, same, shown, text, told, undo


class ShownTest(unittest.TestCase):
    def is_shown(self, lines):
        with self.subTest(lines=lines):
            told_as_text = row(text(*lines))
            self.assertEqual(told(load(*lines), shown())[1], [len(lines)] + told_as_text)
            again = told(load_told(told_as_text[1:]), shown())
            self.assertEqual(again, [[1, len(lines)], [len(lines)] + told_as_text])

    def test_the_empty_text(self):
        self.assertEqual(told(load(), shown()), [[1, 0], [0, 0]])
        self.is_shown([])

    def test_lines_without_letters(self):
        self.assertEqual(told(load("", "b", "", ""), shown())[1], [4, 5, 10, 98, 10, 10, 10])
        self.is_shown([""])
        self.is_shown(["", "a", "", ""])
        self.is_shown([""] * 24)

    def test_letters_from_a_to_z(self):
        self.assertEqual(told(load("az"), shown())[1], [1, 3, 97, 122, 10])
        self.is_shown(["abcdefghijklmnop", "qrstuvwxyz", "none"])

    def test_24_lines(self):
        self.is_shown(["a"] * 24)
        self.is_shown(["abcdefghijklmnop"] * 24)

    def test_the_text_as_it_is_now(self):
        calls = [load("a", "b"), apply("if is a after c ;"), shown(), apply("if is a delete ;"), shown(), undo(), shown(),
                 undo(), shown(), redo(), shown(), redo(), shown()]
        self.assertEqual([answer[2:] for answer in told(*calls)[2::2]],
                         [row(text(*lines))[1:] for lines in ("acb", "cb", "acb", "ab", "acb", "cb")])

    def test_all_lines_may_go(self):
        self.assertEqual(told(load("a"), apply("delete ;"), shown(), undo(), shown())[2::2], [[0, 0], [1, 2, 97, 10]])

    def test_what_is_not_made_is_not_shown(self):
        calls = [load("ab", "c"), guard("a"), dry("delete ;"), apply("delete ;"), apply("delete"), apply("after a ;" * 16),
                 load_told("x"), guard("A"), undo(), redo(), same("delete ;", ""), shown()]
        self.assertEqual(told(*calls)[3:], [[-9], [0, 3, 6], [-7], [-4], [-4], [-2], [-2], [0, 0, 0],
                                            [2, 5, 97, 98, 10, 99, 10]])


class OriginsTest(unittest.TestCase):
    def are_origins(self, lines, scripts, *wanted):
        with self.subTest(lines=lines, scripts=scripts):
            flat = [number for origin in wanted for number in origin]
            answered = told(load(*lines), *[apply(script) for script in scripts], origins())
            self.assertEqual([answer[0] for answer in answered[:-1]], [1] * (len(scripts) + 1))
            self.assertEqual(answered[-1], [len(wanted)] + flat)

    def test_behind_load(self):
        self.are_origins([], [])
        self.are_origins(["a"], [], (1, 0))
        self.are_origins(["", "b", "b"], [], (1, 0), (2, 0), (3, 0))
        self.assertEqual(told(load("a"), apply("change b ; after c ;"), load("b", "c"), origins())[3], [2, 1, 0, 2, 0])

    def test_lines_that_are_put(self):
        self.are_origins("ab", ["if is a before x ; if is b after y ;"], (0, 1), (1, 0), (2, 0), (0, 1))
        self.are_origins("a", ["keep ; bring ;"], (1, 0), (0, 1))
        self.are_origins("a", ["after a ;", "before a ;"], (0, 2), (1, 0), (0, 2), (0, 1))

    def test_lines_that_are_changed(self):
        self.are_origins("abc", ["if is b change x ;"], (1, 0), (2, 1), (3, 0))
        self.are_origins("abc", ["if is b change x ;", "if is c swap c y ;"], (1, 0), (2, 1), (3, 2))
        self.are_origins("abc", ["if is b change x ;", "if is x first x none ;"], (1, 0), (2, 2), (3, 0))

    def test_a_line_that_was_put_and_is_changed(self):
        self.are_origins("a", ["after b ;", "if is b change c ;"], (1, 0), (0, 2))
        self.are_origins("a", ["after b ;", "", "if is b change b ;"], (1, 0), (0, 1))

    def test_lines_that_are_taken_out(self):
        self.are_origins("abc", ["if is b delete ;"], (1, 0), (3, 0))
        self.are_origins("abc", ["if is b delete ;", "if line 2 change x ;"], (1, 0), (3, 2))
        self.are_origins("abc", ["delete ;"])
        self.are_origins("abc", ["delete ; ", "after x ;"])

    def test_a_line_taken_out_and_put_alike_was_put(self):
        self.are_origins("ab", ["if is a before a ; if is a delete ;"], (0, 1), (2, 0))

    def test_lines_that_are_kept_by_many_steps(self):
        self.are_origins("ab", ["if line 2 change c ;"] + [""] * 19, (1, 0), (2, 1))
        self.are_origins("ab", [""] * 19 + ["if line 2 change c ;"], (1, 0), (2, 20))

    def test_changed_and_in_the_same_step_changed_back(self):
        self.are_origins("ab", ["if is a change x ; if is x change a ;"], (1, 0), (2, 0))
        self.are_origins("ab", ["swap a b ; swap b a ; if line 2 change b ;"], (1, 0), (2, 0))
        self.are_origins("ab", ["keep ; trade ; trade ;"], (1, 0), (2, 0))

    def test_changed_back_by_a_later_step(self):
        self.are_origins("ab", ["if is a change x ;", "if is x change a ;"], (1, 2), (2, 0))

    def test_behind_trade(self):
        self.are_origins("abb", ["trade ;"], (1, 1), (2, 1), (3, 0))
        self.are_origins("ab", ["if line 1 keep ; if line 2 trade ;"], (1, 0), (2, 1))

    def test_behind_undo_and_redo_just_as_they_were(self):
        scripts = ["after x ;", "if is x change y ;", "if is b delete ;", "before z ;", "trade ;", ""]
        calls = [load("a", "b"), origins()]
        for script in scripts:
            calls += [apply(script), origins()]
        as_they_were = told(*calls)[1::2]
        for step in scripts:
            calls += [undo(), origins()]
        for step in scripts:
            calls += [redo(), origins()]
        told_again = told(*calls)[1::2]
        self.assertEqual(told_again, as_they_were + as_they_were[-2::-1] + as_they_were[1:])
        self.assertEqual(len({tuple(answer) for answer in as_they_were}), len(scripts))

    def test_a_step_behind_an_undone_one_has_its_number(self):
        self.assertEqual(told(load("a"), apply("after b ;"), apply("after c ;"), undo(), apply("if is a change d ;"),
                              origins())[5], [2, 1, 2, 0, 1])

    def test_a_dry_one_and_a_refused_one_leave_them(self):
        self.assertEqual(told(load("a", "b"), guard("b"), dry("change c ;"), apply("change c ;"), apply("skip 0 ;"),
                              apply("swap a abcdefgh ; swap a abcdefgh ; swap b aaaaaaaa ; swap a aaa ;"),
                              origins())[3:],
                         [[-9], [0, 7, 5], [-7], [2, 1, 0, 2, 0]])


class HistoryTest(unittest.TestCase):
    def test_no_step(self):
        self.assertEqual(told(load("a", "b"), history())[1], [0, 0, 2])
        self.assertEqual(told(load(), history())[1], [0, 0, 0])

    def test_some_steps(self):
        self.assertEqual(told(load("a", "b"), apply("after c ;"), apply("if is c delete ;"), apply("delete ;"), history()
                              )[4], [3, 0, 2, 4, 2, 0])

    def test_20_steps(self):
        calls = [load("a")] + [apply("if last after b ;")] * 20 + [history(), apply("delete ;"), history()]
        wanted = [20, 0] + list(range(1, 22))
        self.assertEqual(told(*calls)[21:], [wanted, [-6], wanted])

    def test_some_undone(self):
        calls = [load("a")] + [apply("if last after b ;")] * 4 + [undo(), history(), undo(), history(), redo(), history()]
        self.assertEqual(told(*calls)[6::2], [[3, 1, 1, 2, 3, 4], [2, 2, 1, 2, 3], [3, 1, 1, 2, 3, 4]])

    def test_all_20_undone(self):
        calls = [load("a")] + [apply("if last after b ;")] * 20 + [undo()] * 18 + [history()]
        self.assertEqual(told(*calls)[39], [2, 18, 1, 2, 3])

    def test_behind_a_new_apply(self):
        calls = [load("a"), apply("after b ;"), apply("after c ;"), undo(), undo(), history(), apply("delete ;"), history()]
        self.assertEqual(told(*calls)[5::2], [[0, 2, 1], [1, 0, 1, 0]])

    def test_behind_what_is_refused_or_dry(self):
        calls = [load("a"), apply("after b ;"), apply("after c ;"), undo(), guard("a"), apply("delete ;"), dry("delete ;"),
                 apply("x"), apply("after a ;" * 12), load_told("x"), guard("?"), same("", "delete ;"), history()]
        self.assertEqual(told(*calls)[5:], [[-9], [1, 0, 0, 0, 2, 0, 1, 2], [0, 3, 0], [-7], [-4], [-4], [0, 0, 0],
                                            [1, 1, 1, 2]])

    def test_behind_a_load(self):
        self.assertEqual(told(load("a"), apply(""), apply(""), undo(), load("b", "c", "d"), history())[5], [0, 0, 3])


if __name__ == "__main__":
    unittest.main()
