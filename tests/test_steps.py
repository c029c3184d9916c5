"""Steps: what they do, the origins of lines, undo and redo, guarded lines."""

import unittest

from lineedits.edits import APPLY, answer_or_refusal
from lineedits.refusals import HarmsGuarded
from tests.helper import apply, dry, load, origins_after, redo, row, session, told, undo


def state_of(made):
    return (made.now().lines, made.now().origins, made.how_many_steps())


class OriginTest(unittest.TestCase):
    def test_lines_of_the_first_text(self):
        self.assertEqual(origins_after(["a", "b"]), [(1, 0), (2, 0)])

    def test_worked(self):
        first = "if is a after q ; if is b delete ;"
        self.assertEqual(origins_after(["a", "key", "b"], first), [(1, 0), (0, 1), (2, 0)])
        self.assertEqual(origins_after(["a", "key", "b"], first, "if is q change z ;"), [(1, 0), (0, 2), (2, 0)])

    def test_a_line_that_is_changed_keeps_the_first_texts_line(self):
        self.assertEqual(origins_after(["a", "b"], "if is b change c ;"), [(1, 0), (2, 1)])
        self.assertEqual(origins_after(["a", "b"], "", "if is b change c ;"), [(1, 0), (2, 2)])
        self.assertEqual(origins_after(["a", "b"], "if is b change c ;", "if is c change b ;"), [(1, 0), (2, 2)])

    def test_a_line_neither_put_nor_changed_keeps_its_origin(self):
        self.assertEqual(origins_after(["a", "b"], "if is b change c ; if is c after d ;", "if is a delete ;", ""),
                         [(2, 1), (0, 1)])

    def test_lines_put_ahead_and_behind_do_not_count(self):
        self.assertEqual(origins_after(["a"], "before x ; after y ; bring ;"), [(0, 1), (1, 0), (0, 1), (0, 1)])

    def test_what_counts_is_the_line_as_the_step_leaves_it(self):
        self.assertEqual(origins_after(["a"], "change b ; change a ;"), [(1, 0)])
        self.assertEqual(origins_after(["a"], "change a ;"), [(1, 0)])
        self.assertEqual(origins_after(["a"], "keep ; change b ; trade ;"), [(1, 0)])
        self.assertEqual(origins_after(["a", "a", "b"], "trade ;"), [(1, 1), (2, 0), (3, 1)])

    def test_an_origin_goes_with_the_line_and_not_with_its_letters(self):
        self.assertEqual(origins_after(["a", "b"], "if line 1 keep ; if line 2 trade ;"), [(1, 0), (2, 1)])
        self.assertEqual(origins_after(["a", "b"], "if line 1 keep ; if line 1 delete ; bring ;"), [(2, 0), (0, 1)])

    def test_steps_that_are_undone_are_not_counted(self):
        made = session(["a"], "", "")
        made.undo()
        made.apply(row("change b ;")[1:])
        self.assertEqual(state_of(made), (["b"], [(1, 2)], 2))


class WhatAStepDoesTest(unittest.TestCase):
    def does(self, lines, script, *effect):
        with self.subTest(lines=lines, script=script):
            made, tried = told(load(*lines), apply(script), undo(), dry(script))[1::2]
            wanted = [effect[0] + effect[1] + effect[3]] + list(effect)
            wanted.insert(0, 1)
            self.assertEqual(made, wanted)
            self.assertEqual(tried[:6], wanted)

    def test_lines_that_come_as_they_were(self):
        self.does(["a", "b"], "", 2, 0, 0, 0)
        self.does(["a", "b"], "change c ; change a ; stop ;", 1, 1, 0, 0)

    def test_lines_that_are_changed(self):
        self.does(["a", "b"], "if is b change c ;", 1, 1, 0, 0)
        self.does(["a", "b"], "trade ;", 0, 2, 0, 0)

    def test_lines_that_go(self):
        self.does(["a", "b", "c"], "if not is b delete ;", 1, 0, 2, 0)

    def test_a_line_that_was_changed_and_goes_goes(self):
        self.does(["a", "b", "c"], "if is a change x ; if is x delete ;", 2, 0, 1, 0)

    def test_lines_that_are_put(self):
        self.does(["a", "b"], "before x ; if is a after y ; if is b bring ;", 2, 0, 0, 4)
        self.does(["a", "b"], "before x ; after y ; delete ;", 0, 0, 2, 4)

    def test_all_at_once(self):
        self.does(["a", "b", "c"], "if is a delete ; if is b change d ; if is c after e ;", 1, 1, 1, 1)


class UndoRedoTest(unittest.TestCase):
    def test_none_left(self):
        self.assertEqual(told(load("a"), undo(), redo()), [[1, 1], [-2], [-2]])
        self.assertEqual(told(load("a"), apply(""), redo(), undo(), undo(), redo(), redo()),
                         [[1, 1], [1, 1, 1, 0, 0, 0], [-2], [1, 1, 0], [-2], [1, 1, 1], [-2]])

    def test_a_refused_one_leaves_the_object_as_it_was(self):
        self.assertEqual(told(load("a", "b"), undo(), dry("if is b delete ;"), redo(), dry("if is b delete ;"))[2::2],
                         [[1, 1, 1, 0, 1, 0, 0, 1]] * 2)

    def test_redo_after_a_new_apply(self):
        self.assertEqual(
            told(load("a"), apply("after b ;"), apply("after c ;"), undo(), undo(), apply("after d ;"), redo(),
                 undo(), redo(), redo())[3:],
            [[1, 2, 1], [1, 1, 0], [1, 2, 1, 0, 0, 1], [-2], [1, 1, 0], [1, 2, 1], [-2]])

    def test_redo_after_an_apply_that_was_not_made(self):
        long = "a" * 16
        self.assertEqual(
            told(load(long), apply("after b ;"), undo(), apply("delete"), apply("swap a bb ;"), dry(""), redo())[3:],
            [[0, 3, 6], [-7], [1, 1, 1, 0, 0, 0, 0, 0], [1, 2, 1]])

    def test_many_undone_and_made_again(self):
        made = session(["a"])
        states = [state_of(made)]
        for script in ("after b ;", "if is a delete ;", "change c ;", "before d ; after e ;", "", "swap e xyz ;"):
            made.apply(row(script)[1:])
            states.append(state_of(made))
        for going in range(2):
            for state in reversed(states[:-1]):
                self.assertEqual(made.undo(), [1, len(state[0]), state[2]])
                self.assertEqual(state_of(made), state)
            for state in states[1:]:
                self.assertEqual(made.redo(), [1, len(state[0]), state[2]])
                self.assertEqual(state_of(made), state)

    def test_the_step_undone_last_is_made_again_first(self):
        calls = [load("a")] + [apply("if last after b ;")] * 3 + [undo()] * 3 + [redo()] * 3
        self.assertEqual(told(*calls)[4:],
                         [[1, 3, 2], [1, 2, 1], [1, 1, 0], [1, 2, 1], [1, 3, 2], [1, 4, 3]])


class TwentyStepsTest(unittest.TestCase):
    def test_20_steps_and_the_twenty_first(self):
        calls = [load("a")] + [apply("keep ;")] * 21 + [undo()] + [apply("keep ;")] * 2
        answered = told(*calls)
        self.assertEqual(answered[1:21], [[1, 1, 1, 0, 0, 0]] * 20)
        self.assertEqual(answered[21:], [[-6], [1, 1, 19], [1, 1, 1, 0, 0, 0], [-6]])

    def test_all_20_are_held(self):
        calls = [load("a")] + [apply("if last after b ;")] * 20
        calls += [undo()] * 19
        self.assertEqual(told(*calls)[21:], [[1, steps + 1, steps] for steps in range(19, 0, -1)])

    def test_all_20_are_made_again(self):
        made = session(["a"], *["if last after b ;"] * 20)
        for step in range(20):
            made.undo()
        for step in range(1, 21):
            self.assertEqual(made.redo(), [1, step + 1, step])
        self.assertEqual(made.now().origins, [(1, 0)] + [(0, step) for step in range(1, 21)])

    def test_a_dry_one_is_answered_at_20_steps(self):
        calls = [load("a")] + [apply("")] * 20 + [dry("after b ;"), dry("delete")]
        self.assertEqual(told(*calls)[21:], [[1, 2, 1, 0, 0, 1, 0, 1], [0, 3, 6]])

    def test_a_refused_twenty_first_forgets_nothing(self):
        calls = [load("a")] + [apply("if last after b ;")] * 20 + [apply("delete ;"), undo(), redo(), redo()]
        self.assertEqual(told(*calls)[21:], [[-6], [1, 20, 19], [1, 21, 20], [-2]])


class GuardedTest(unittest.TestCase):
    def guarding(self, letters, *lines):
        made = session(lines)
        made.guard(row(letters)[1:])
        return made

    def first_harmed(self, made, script):
        return made.dry(row(script)[1:])[6]

    def is_harm(self, made, script, number):
        with self.subTest(script=script):
            before = state_of(made)
            self.assertEqual(self.first_harmed(made, script), number)
            with self.assertRaises(HarmsGuarded):
                made.apply(row(script)[1:])
            self.assertEqual(answer_or_refusal(made, APPLY, [row(script)[1:]]), [-9])
            self.assertEqual(state_of(made), before)

    def is_no_harm(self, made, script):
        with self.subTest(script=script):
            self.assertEqual(self.first_harmed(made, script), 0)
            self.assertEqual(made.apply(row(script)[1:])[0], 1)
            made.undo()

    def test_nothing_is_guarded_at_first(self):
        self.is_no_harm(session(["key", ""]), "delete ;")
        self.is_no_harm(session(["key", ""]), "change a ;")
        self.assertEqual(told(load("key", "a"), dry("delete ;"), apply("delete ;"))[1:],
                         [[1, 0, 0, 0, 2, 0, 0, 2], [1, 0, 0, 0, 2, 0]])

    def test_a_guarded_line_may_not_change_or_go(self):
        made = self.guarding("key", "a", "akeyb", "keey", "key")
        self.is_harm(made, "swap e x ;", 2)
        self.is_harm(made, "delete ;", 2)
        self.is_harm(made, "if last delete ;", 4)
        self.is_harm(made, "if is key change keys ;", 4)

    def test_nor_with_one_alike_in_its_place(self):
        made = self.guarding("key", "a", "key")
        self.is_harm(made, "if is key before key ; if is key delete ;", 2)

    def test_other_lines_may(self):
        made = self.guarding("key", "a", "key", "keey")
        self.is_no_harm(made, "if not is key delete ;")
        self.is_no_harm(made, "if is keey change key ;")
        self.is_no_harm(made, "before x ; after y ;")
        self.is_no_harm(made, "if is key change x ; if is x change key ;")

    def test_other_refusals_come_first(self):
        made = self.guarding("key", *["key"] * 24)
        self.assertEqual(answer_or_refusal(made, APPLY, [row("change a ; after b ;")[1:]]), [-7])
        for step in range(20):
            made.apply([])
        self.assertEqual(answer_or_refusal(made, APPLY, [row("change a ;")[1:]]), [-6])
        self.assertEqual(answer_or_refusal(made, APPLY, [row("change a")[1:]]), [0, 3, 8])

    def test_a_step_that_may_not_be_made_leaves_what_was_undone(self):
        made = self.guarding("key", "key")
        made.apply(row("after b ;")[1:])
        made.undo()
        with self.assertRaises(HarmsGuarded):
            made.apply(row("delete ;")[1:])
        self.assertEqual(made.redo(), [1, 2, 1])


if __name__ == "__main__":
    unittest.main()
