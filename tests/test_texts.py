"""What load takes and what it refuses."""

import unittest

from tests.helper import apply, dry, guard, load, load_told, redo, session, told, undo


class LoadTest(unittest.TestCase):
    def is_taken(self, text, how_many):
        with self.subTest(text=text):
            self.assertEqual(told(load_told(text)), [[1, how_many]])

    def is_refused(self, text):
        with self.subTest(text=text):
            self.assertEqual(told(load_told(text)), [[-4]])

    def test_texts_told_rightly(self):
        self.is_taken("a\nkey\nb\n", 3)
        self.is_taken("", 0)
        self.is_taken("\n", 1)
        self.is_taken("\n\na\n\n", 4)
        self.is_taken("az\nza\n", 2)

    def test_words_of_a_script_are_lines_like_others(self):
        self.is_taken("if\nnone\ndelete\n", 3)

    def test_the_lines_are_the_letters(self):
        everything = "abcdefghijklmnop\nqrstuvwxyz\n\n"
        self.assertEqual(session(everything.split("\n")[:3]).now().lines,
                         ["abcdefghijklmnop", "qrstuvwxyz", ""])

    def test_24_lines_and_25(self):
        self.is_taken("a\n" * 24, 24)
        self.is_taken("\n" * 24, 24)
        self.is_refused("a\n" * 25)
        self.is_refused("\n" * 25)
        self.is_refused("\n" * 8192)

    def test_16_letters_and_17(self):
        self.is_taken("a" * 16 + "\n", 1)
        self.is_taken(("a" * 16 + "\n") * 24, 24)
        self.is_refused("a" * 17 + "\n")
        self.is_refused("b\n" + "a" * 17 + "\nc\n")

    def test_each_line_is_ended(self):
        self.is_refused("a")
        self.is_refused("a\nb")
        self.is_refused("a\n" * 24 + "b")

    def test_other_bytes_than_letters(self):
        for byte in (0, 9, 11, 13, 32, 35, 48, 59, 65, 90, 96, 123, 128, 255):
            self.is_refused([97, byte, 98, 10])
            self.is_refused([byte, 10])
            self.is_refused([97, 10, byte])

    def test_a_refused_load_leaves_no_text_where_there_was_none(self):
        self.assertEqual(told(load_told("A\n"), undo(), dry("")), [[-4], [-1], [-1]])

    def test_a_refused_load_leaves_the_object_as_it_was(self):
        self.assertEqual(
            told(load("a", "b"), apply("if is a after c ;"), apply("if is c delete ;"), undo(),
                 load_told("x"), dry("if is c change d ;"), redo(), undo(), undo(), undo()),
            [[1, 2], [1, 3, 2, 0, 0, 1], [1, 2, 2, 0, 1, 0], [1, 3, 1],
             [-4], [1, 3, 2, 1, 0, 0, 0, 2], [1, 2, 2], [1, 3, 1], [1, 2, 0], [-2]])

    def test_a_load_forgets_steps_and_what_was_undone(self):
        self.assertEqual(
            told(load("a"), apply("keep ;"), apply("keep ;"), undo(), load("b", "c"), redo(), undo(),
                 dry("if is b delete ;")),
            [[1, 1], [1, 1, 1, 0, 0, 0], [1, 1, 1, 0, 0, 0], [1, 1, 1], [1, 2], [-2], [-2],
             [1, 1, 1, 0, 1, 0, 0, 1]])

    def test_a_load_forgets_what_was_guarded(self):
        self.assertEqual(told(load("key"), guard("key"), load("key"), dry("delete ;"), apply("delete ;"))[3:],
                         [[1, 0, 0, 0, 1, 0, 0, 1], [1, 0, 0, 0, 1, 0]])

    def test_the_steps_are_numbered_anew(self):
        made = session(["a"], "change b ;", "change c ;")
        made.load([97, 10])
        made.apply([])
        self.assertEqual(made.how_many_steps(), 1)
        self.assertEqual(made.now().origins, [(1, 0)])

    def test_the_empty_text_is_a_text(self):
        self.assertEqual(
            told(load(), apply("before a ; after b ; delete ;"), dry(""), undo(), undo()),
            [[1, 0], [1, 0, 0, 0, 0, 0], [1, 0, 0, 0, 0, 0, 0, 0], [1, 0, 0], [-2]])


if __name__ == "__main__":
    unittest.main()
