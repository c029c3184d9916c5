"""How a script runs over a text."""

import unittest

from lineedits.refusals import TooMuch
from lineedits.runs import outcome_of, result_of, run
from lineedits.scripts import commands_of
from tests.helper import apply, dry, lines_after, load, row, told


class RunCase(unittest.TestCase):
    def comes(self, lines, script, result):
        with self.subTest(lines=lines, script=script):
            self.assertEqual(lines_after(lines.split(), script), result.split())


class AddressTest(RunCase):
    def test_all(self):
        self.comes("a b c", "change x ;", "x x x")
        self.comes("a b c", "if all change x ;", "x x x")
        self.comes("a b c", "if not all change x ;", "a b c")

    def test_line(self):
        self.comes("a b c", "if line 1 change x ;", "x b c")
        self.comes("a b c", "if line 3 change x ;", "a b x")
        self.comes("a b c", "if line 4 change x ;", "a b c")
        self.comes("a b c", "if not line 2 change x ;", "x b x")

    def test_the_number_is_the_one_the_line_has_as_it_is_found(self):
        self.comes("a b c", "if line 1 before y ; if line 2 change x ;", "y a x c")
        self.comes("a b c", "if line 1 delete ; if line 2 change x ;", "x c")

    def test_from_to(self):
        self.comes("a b c d", "if from 2 to 3 change x ;", "a x x d")
        self.comes("a b c d", "if from 1 to 1 change x ;", "x b c d")
        self.comes("a b c d", "if from 3 to 99 change x ;", "a b x x")
        self.comes("a b c d", "if not from 2 to 3 change x ;", "x b c x")

    def test_last(self):
        self.comes("a b c", "if last change x ;", "a b x")
        self.comes("a", "if last change x ;", "x")
        self.comes("a b c", "if last delete ;", "a b")
        self.comes("a b c", "if not last delete ;", "c")

    def test_has(self):
        self.comes("abc bac cab ac", "if has ab delete ;", "bac ac")
        self.comes("aab ab b", "if has ab change x ;", "x x b")
        self.comes("abc axc", "if not has b delete ;", "abc")

    def test_is(self):
        self.comes("ab abc xab ab", "if is ab delete ;", "abc xab")
        self.comes("ab abc", "if not is ab delete ;", "ab")

    def test_has_and_is_look_at_the_line_as_it_is_by_now(self):
        self.comes("a b", "if is a change b ; if is b change c ;", "c c")
        self.comes("a b", "if has a swap a xy ; if has xy after z ;", "xy z b")
        self.comes("a b", "if is a change b ; if is a delete ;", "b b")

    def test_nots_one_behind_the_other(self):
        self.comes("a b", "if not not is a delete ;", "b")
        self.comes("a b", "if not not not is a delete ;", "a")

    def test_a_line_without_letters(self):
        self.assertEqual(lines_after(["", "a"], "if not has a change b ;"), ["b", "a"])
        self.assertEqual(lines_after(["", "a"], "if has b delete ; if is b delete ;"), ["", "a"])


class DeedTest(RunCase):
    def test_delete(self):
        self.comes("a b c", "if is b delete ;", "a c")
        self.comes("a b c", "delete ;", "")

    def test_no_command_is_done_behind_a_delete(self):
        self.comes("a b", "if is a delete ; before x ; after y ;", "x b y")

    def test_what_was_put_at_a_line_that_goes_comes(self):
        self.comes("a b", "if is a before x ; if is a after y ; if is a delete ;", "x y b")

    def test_stop(self):
        self.comes("a b", "before x ; after y ; if is a stop ; change z ;", "x a y x z y")

    def test_before_and_after_in_their_order(self):
        self.comes("a", "before x ; before y ; after z ; after w ;", "x y a z w")
        self.comes("a b", "after z ; before x ;", "x a z x b z")

    def test_lines_that_are_put_are_not_gone_through(self):
        self.comes("a b", "if is x delete ; before x ; after x ;", "x a x x b x")

    def test_change(self):
        self.comes("a abcd", "change xyz ;", "xyz xyz")

    def test_swap(self):
        self.comes("banana", "swap an x ;", "bxxa")
        self.comes("aaaaa", "swap aa b ;", "bba")
        self.comes("aba", "swap a aa ;", "aabaa")
        self.comes("abc", "swap x y ;", "abc")
        self.comes("banana", "swap a none ;", "bnn")
        self.comes("aabb", "swap ab none ;", "ab")

    def test_first(self):
        self.comes("banana", "first an x ;", "bxana")
        self.comes("banana", "first a none ;", "bnana")
        self.comes("banana", "first x y ;", "banana")
        self.comes("aaa", "first aa b ;", "ba")

    def test_none_may_leave_a_line_without_letters(self):
        self.assertEqual(lines_after(["aa", "a"], "swap a none ;"), ["", ""])
        self.assertEqual(lines_after(["aa", "a"], "first a none ;"), ["a", ""])

    def test_the_held_line_is_at_first_without_letters(self):
        self.assertEqual(lines_after(["a", "b"], "bring ;"), ["a", "", "b", ""])
        self.assertEqual(lines_after(["a"], "trade ;"), [""])

    def test_keep_and_bring_over_several_lines(self):
        self.comes("a b c", "if line 1 keep ; if last bring ;", "a b c a")
        self.comes("a b c", "if line 1 keep ; if line 1 delete ; if last bring ;", "b c a")
        self.comes("a b c", "keep ; bring ;", "a a b b c c")

    def test_keep_takes_the_line_as_it_is_by_now(self):
        self.comes("a b", "if line 1 change x ; if line 1 keep ; if line 1 change y ; if line 2 bring ;", "y b x")

    def test_bring_takes_the_held_line_as_it_is_by_now(self):
        self.comes("a", "keep ; bring ; change b ; keep ; bring ; after z ;", "b a b z")

    def test_what_was_brought_stays_as_it_was(self):
        self.comes("a b", "if line 1 keep ; if line 1 bring ; if line 2 keep ; if line 2 bring ;", "a a b b")

    def test_trade_over_several_lines(self):
        self.assertEqual(lines_after(["a", "b", "c"], "trade ;"), ["", "a", "b"])
        self.comes("a b c", "if line 1 keep ; if line 1 delete ; trade ; if last bring ;", "a b c")
        self.assertEqual(lines_after(["a", "b"], "if line 1 trade ; if line 2 trade ;"), ["", "a"])

    def test_trade_changes_the_held_line_too(self):
        self.comes("a b", "if line 1 keep ; if line 2 trade ; if line 2 bring ;", "a a b")

    def test_the_held_line_is_there_in_one_run_alone(self):
        self.assertEqual(lines_after(["a"], "keep ;", "bring ;"), ["a", ""])


class SkipTest(RunCase):
    def test_the_next_commands_are_left_out(self):
        self.comes("a", "skip 1 ; before x ; before y ;", "y a")
        self.comes("a", "skip 2 ; before x ; before y ; before z ;", "z a")

    def test_commands_that_would_not_have_been_done_count(self):
        self.comes("a", "skip 2 ; if is q before x ; before y ; before z ;", "z a")
        self.comes("a", "skip 1 ; if is q before x ; before y ;", "y a")

    def test_skips_deletes_and_stops_are_left_out(self):
        self.comes("a", "skip 3 ; skip 9 ; delete ; stop ; before x ;", "x a")

    def test_more_than_there_are(self):
        self.comes("a b", "before x ; skip 9 ; delete ;", "x a x b")

    def test_a_skip_that_is_not_done(self):
        self.comes("a b", "if is a skip 1 ; before x ;", "a x b")

    def test_each_line_anew(self):
        self.comes("a b c", "before x ; if line 1 skip 9 ; before y ;", "x a x y b x y c")


class TooMuchTest(unittest.TestCase):
    def is_too_much(self, lines, script):
        with self.subTest(lines=lines, script=script):
            self.assertEqual(told(load(*lines), dry(script), apply(script))[1:], [[-7], [-7]])

    def how_many_come(self, lines, script):
        with self.subTest(lines=lines, script=script):
            answered = told(load(*lines), dry(script), apply(script))
            return [answer[1] for answer in answered[1:]]

    def test_more_than_16_letters_by_swap(self):
        self.assertEqual(lines_after(["a" * 8], "swap a bb ;"), ["b" * 16])
        self.is_too_much(["a" * 9], "swap a bb ;")
        self.is_too_much(["x", "aab"], "swap a bcdefghi ;")

    def test_more_than_16_letters_by_first(self):
        self.assertEqual(lines_after(["a" * 15], "first a bb ;"), ["bb" + "a" * 14])
        self.is_too_much(["a" * 16], "first a bb ;")

    def test_also_on_a_line_that_gets_shorter_or_goes(self):
        self.is_too_much(["a" * 16], "first a bb ; change c ;")
        self.is_too_much(["a" * 16], "swap a bb ; delete ;")
        self.is_too_much(["a" * 16], "swap a bb ; swap bb none ;")

    def test_not_where_the_command_is_not_done(self):
        self.assertEqual(self.how_many_come(["a" * 16], "skip 1 ; swap a bb ; stop ; swap a bb ;"), [1, 1])
        self.assertEqual(self.how_many_come(["a" * 16], "if is b swap a bb ; delete ; swap a bb ;"), [0, 0])

    def test_16_letters_that_no_swap_reaches_stay(self):
        self.assertEqual(self.how_many_come(["a" * 16], "swap b bb ; first b bb ; swap a b ;"), [1, 1])

    def test_24_lines_come_and_25_do_not(self):
        self.assertEqual(self.how_many_come(["a"] * 12, "after b ;"), [24, 24])
        self.assertEqual(self.how_many_come(["a"] * 24, ""), [24, 24])
        self.assertEqual(self.how_many_come(["a"] * 24, "if line 1 delete ; if last after b ;"), [24, 24])
        self.is_too_much(["a"] * 24, "if last after b ;")
        self.is_too_much(["a"] * 5, "after b ;" * 4)

    def test_60_lines_and_61_of_a_run(self):
        twelve = ["a"] * 12
        commands = commands_of(row("after b ;" * 4)[1:])
        self.assertEqual(result_of(run(commands, twelve)), ["a", "b", "b", "b", "b"] * 12)
        self.assertEqual(outcome_of(commands, twelve), ["a", "b", "b", "b", "b"] * 12)
        with self.assertRaises(TooMuch):
            run(commands, twelve + ["a"])
        self.assertIsNone(outcome_of(commands, twelve + ["a"]))
        one_more = commands_of(row("after b ;" * 4 + "if line 1 before c ;")[1:])
        with self.assertRaises(TooMuch):
            run(one_more, twelve)
        one_less = commands_of(row("after b ;" * 4 + "if line 1 before c ; if line 2 delete ;")[1:])
        self.assertEqual(len(result_of(run(one_less, twelve))), 60)
        self.is_too_much(["a"] * 24, "after b ;" * 16)


if __name__ == "__main__":
    unittest.main()
