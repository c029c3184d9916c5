"""How a script is read: its tokens, its commands, its faults."""

import unittest

from lineedits.scripts import commands_of
from tests.helper import apply, dry, lines_after, load, row, told


def answers_to(script):
    """What dry and apply answer to a script on a text of two lines."""
    return told(load("ab", "c"), dry(script), apply(script))[1:]


class ScriptCase(unittest.TestCase):
    def is_fault(self, script, code, place):
        with self.subTest(script=script):
            fault = [0, code, place]
            self.assertEqual(answers_to(script), [fault, fault])

    def is_right(self, script):
        with self.subTest(script=script):
            self.assertEqual([answer[0] for answer in answers_to(script)], [1, 1])


class TooLongTest(ScriptCase):
    def test_4096_bytes_are_not_too_many(self):
        self.is_right(" " * 4096)
        self.is_right("stop ;" + "#" * 4090)

    def test_more_than_4096_bytes(self):
        for size in (4097, 5000, 8192):
            self.is_fault(" " * size, 1, 4096)

    def test_it_comes_ahead_of_all_other_faults(self):
        self.is_fault("!" + " " * 4096, 1, 4096)
        self.is_fault("skip 0 ;" + " " * 4096, 1, 4096)


class TokenTest(ScriptCase):
    def test_words_have_at_most_8_letters(self):
        self.is_right("change abcdefgh ;")
        self.is_fault("change abcdefghi ;", 2, 7)
        self.is_fault("deletestop;", 2, 0)

    def test_a_word_goes_as_far_as_its_letters(self):
        self.is_fault("keepkeep;", 3, 0)
        self.is_fault("ifalldelete;", 2, 0)
        self.is_right("if line2skip1;keep;")

    def test_numbers_are_at_most_1000000000(self):
        self.is_fault("skip 1000000000 ;", 7, 5)
        self.is_fault("skip 999999999 ;", 7, 5)
        self.is_fault("skip 1000000001 ;", 2, 5)
        self.is_fault("skip 9999999999 ;", 2, 5)
        self.is_fault("skip 10000000000 ;", 2, 5)
        self.is_fault("skip " + "9" * 4091, 2, 5)

    def test_no_needless_zero_in_front(self):
        self.is_fault("skip 01 ;", 2, 5)
        self.is_fault("skip 00 ;", 2, 5)
        self.is_fault("if from 1 to 02 stop ;", 2, 13)
        self.is_fault("skip 0 ;", 7, 5)
        self.is_right("if line 10 stop ;")

    def test_bytes_that_begin_no_token(self):
        for byte in (0, 8, 11, 12, 13, 31, 33, 34, 36, 44, 45, 47, 58, 60, 65, 90, 95, 96, 123, 127, 128, 255):
            script = row("keep ")[1:] + [byte] + row(" ;")[1:]
            self.is_fault(script, 2, 5)

    def test_the_first_such_place_is_told(self):
        self.is_fault("keep ; ! 007 ;", 2, 7)
        self.is_fault("keep ; 007 ! ;", 2, 7)
        self.is_fault("keep ; abcdefghijk 007", 2, 7)
        self.is_fault("A", 2, 0)

    def test_it_comes_ahead_of_faults_further_left(self):
        self.is_fault("; delete !", 2, 9)
        self.is_fault("skip 0 ; 00", 2, 9)
        self.is_fault("keep ; " * 17 + "?", 2, 119)

    def test_blanks_and_remarks_between_tokens_and_at_both_ends(self):
        self.assertEqual(lines_after(["a"], " \t\nbefore\n\t b;\n "), ["b", "a"])
        self.assertEqual(lines_after(["a"], "#x\nbefore#y ; !\n#\nb#\n;#z"), ["b", "a"])
        self.assertEqual(lines_after(["a"], "#before b ;"), ["a"])
        self.assertEqual(lines_after(["a"], "before b # ;\n; # after c ;\n"), ["b", "a"])

    def test_a_remark_parts_tokens(self):
        self.is_fault("ke#\nep;", 3, 0)
        self.is_fault("if line 1#\n2 stop ;", 3, 11)

    def test_a_remark_holds_any_byte_but_10(self):
        anything = [byte for byte in range(256) if byte != 10]
        self.is_right([35] + anything + [10] + row("stop;")[1:])
        self.is_fault([35] + anything + [10, 0], 2, 257)

    def test_blanks_part_tokens(self):
        for blank in " \t\n":
            self.is_right("if" + blank + "all" + blank + "stop;")
            self.is_fault("ke" + blank + "ep;", 3, 0)

    def test_no_blank_is_needed_where_tokens_part_by_themselves(self):
        self.assertEqual(lines_after(["a", "b"], "if from1to1delete;change c;"), ["c"])


class RightScriptTest(ScriptCase):
    def test_the_empty_script(self):
        for script in ("", " ", "#", "# nothing\n"):
            self.assertEqual(answers_to(script), [[1, 2, 2, 0, 0, 0, 0, 0], [1, 2, 2, 0, 0, 0]])

    def test_16_commands(self):
        self.is_right("keep ;" * 16)
        self.is_right("keep ;" * 16 + " # the end\n ")
        self.assertEqual(lines_after(["a"], "after b ;" * 16), ["a"] + ["b"] * 16)

    def test_each_address_and_each_deed(self):
        for address in ("all", "line 1", "line 99", "from 1 to 1", "from 1 to 99", "from 99 to 99",
                        "last", "has a", "is a", "not all", "not not last", "not not not has a"):
            self.is_right("if " + address + " keep ;")
        for deed in ("delete", "before x", "after x", "change x", "swap x y", "first x y", "swap x none",
                     "first x none", "keep", "bring", "trade", "skip 1", "skip 9", "stop"):
            self.is_right(deed + ";")
            self.is_right("if all " + deed + ";")

    def test_a_command_alone_is_as_if_all(self):
        alone = commands_of(row("keep;")[1:])[0]
        whole = commands_of(row("if all keep;")[1:])[0]
        self.assertEqual((alone.wanted, alone.address, alone.deed), (whole.wanted, whole.address, whole.deed))


class NotAllowedTest(ScriptCase):
    def test_a_command_begins_with_if_or_a_deed(self):
        for script in (";", "all keep ;", "not all keep;", "5 ;", "x ;", "none ;", "to ;", "line 1 keep ;"):
            self.is_fault(script, 3, 0)
        self.is_fault("keep ; ;", 3, 7)

    def test_an_address_is_due(self):
        for wrong in ("keep", "if", "x", "3", ";", "to", "none"):
            self.is_fault("if " + wrong + " keep ;", 3, 3)
            self.is_fault("if not " + wrong + " keep ;", 3, 7)

    def test_a_number_is_due(self):
        for wrong in ("x", "all", ";", "none"):
            self.is_fault("if line " + wrong + " keep ;", 3, 8)
            self.is_fault("if from " + wrong + " to 3 keep ;", 3, 8)
            self.is_fault("if from 1 to " + wrong + " keep ;", 3, 13)
            self.is_fault("skip " + wrong + " ;", 3, 5)

    def test_to_is_due(self):
        for wrong in ("x", "all", ";", "3", "from"):
            self.is_fault("if from 1 " + wrong + " 3 keep ;", 3, 10)

    def test_letters_are_due_and_no_word_of_the_script(self):
        own = ("if all line from to last has is not delete before after change swap first "
               "keep bring trade skip stop none").split()
        for wrong in own + ["7", ";"]:
            self.is_fault("if has " + wrong + " keep ;", 3, 7)
            self.is_fault("if is " + wrong + " keep ;", 3, 6)
            self.is_fault("before " + wrong + " ;", 3, 7)
            self.is_fault("after " + wrong + " ;", 3, 6)
            self.is_fault("change " + wrong + " ;", 3, 7)
            self.is_fault("swap " + wrong + " x ;", 3, 5)
            self.is_fault("first " + wrong + " x ;", 3, 6)
            if wrong != "none":
                self.is_fault("swap x " + wrong + " ;", 3, 7)
                self.is_fault("first x " + wrong + " ;", 3, 8)

    def test_a_deed_is_due(self):
        for wrong in ("if", "all", "x", "7", ";", "not"):
            self.is_fault("if all " + wrong + " ;", 3, 7)

    def test_the_sign_is_due(self):
        for deed in ("delete", "before x", "change x", "swap x y", "swap x none", "keep", "skip 3", "stop"):
            for wrong in ("x", "7", "keep", "none", "if"):
                if not (deed == "swap x" and wrong == "none"):
                    self.is_fault(deed + " " + wrong + " ;", 3, len(deed) + 1)

    def test_the_end_where_something_is_due(self):
        for script in ("if", "if not", "if line", "if from", "if from 1", "if from 1 to", "if has", "if is",
                       "if all", "if line 1", "delete", "before", "after x", "change", "swap", "swap x", "swap x y",
                       "first x none", "skip", "skip 1", "keep ; stop"):
            self.is_fault(script, 3, len(script))
            self.is_fault(script + " \n", 3, len(script) + 2)
            self.is_fault(script + " # ;", 3, len(script) + 4)


class TooManyTest(ScriptCase):
    def test_whatever_stands_behind_the_sixteenth_command(self):
        for token in ("keep ;", "if", ";", "x", "7", "all", "none", "1000000000"):
            self.is_fault("keep ;" * 16 + " " + token, 4, 97)
        self.is_fault("keep ;" * 40, 4, 96)

    def test_a_fourth_not(self):
        self.is_right("if not not not all keep ;")
        self.is_fault("if not not not not all keep ;", 4, 15)
        self.is_fault("if not not not not", 4, 15)
        self.is_fault("if not not not not not not", 4, 15)

    def test_three_nots_in_each_command(self):
        self.is_right("if not not not all keep ; if not not not all keep ;")


class OutOfBoundsTest(ScriptCase):
    def test_lines_are_from_1_to_99(self):
        for wrong in ("0", "100", "1000", "1000000000"):
            self.is_fault("if line " + wrong + " keep ;", 7, 8)
            self.is_fault("if from " + wrong + " to 5 keep ;", 7, 8)
            self.is_fault("if from 1 to " + wrong + " keep ;", 7, 13)

    def test_the_second_is_not_below_the_first(self):
        self.is_fault("if from 5 to 4 keep ;", 7, 13)
        self.is_fault("if from 99 to 98 keep ;", 7, 14)
        self.is_right("if from 5 to 5 keep ;")

    def test_a_skip_is_from_1_to_9(self):
        self.is_fault("skip 0 ;", 7, 5)
        self.is_fault("skip 10 ;", 7, 5)


class WhichFirstTest(ScriptCase):
    def test_from_left_to_right(self):
        self.is_fault("skip 0 x ;", 7, 5)
        self.is_fault("skip x ; skip 0 ;", 3, 5)
        self.is_fault("skip 0 ; skip x ;", 7, 5)
        self.is_fault("if from 0 x", 7, 8)
        self.is_fault("if from 9 x 3", 3, 10)
        self.is_fault("if not not not not line 0", 4, 15)
        self.is_fault("if line 0 keep ; if not not not not", 7, 8)
        self.is_fault("skip 10 ;" + "keep ;" * 16, 7, 5)
        self.is_fault("keep ;" * 15 + "skip 10 ; keep ;", 7, 95)
        self.is_fault("keep ;" * 15 + "keep keep ;", 3, 95)


if __name__ == "__main__":
    unittest.main()
