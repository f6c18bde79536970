import itertools
import unittest

from helper import COPY, FLUSH, HUGE, MARK, START, TURN, change, power, told
from powerkept.editor import Editor

# What's on its way when power goes: how long each write is, and the mark and text that are kept behind it.
WRITES = [
    (change(0, 0, [1, 2]), 9, None),
    (MARK, 7, (1, [1, 2])),
    (change(1, 1, []), 7, None),
    (MARK, 7, (2, [1])),
    (change(0, 0, []), 7, None),
    (change(1, 0, [0, 0, 0]), 10, None),
    (MARK, 7, (3, [1, 0, 0, 0])),
]


def kept_behind(numbers):
    """The mark and text of the last mark ahead of the first write that isn't whole."""
    kept = (0, [])
    for (call, length, marked), number in zip(WRITES, numbers):
        if number < length:
            break
        kept = marked or kept
    return kept


def after_power(numbers):
    editor = Editor()
    for call, length, marked in WRITES:
        if call == MARK:
            editor.mark()
        else:
            editor.change(call[1], call[2], call[4:])
    editor.power(list(numbers))
    return editor


class Mixtures(unittest.TestCase):
    def test_none_a_beginning_or_all_in_every_mixture(self):
        choices = [(0, length - 1, length) for call, length, marked in WRITES]
        for numbers in itertools.product(*choices):
            editor = after_power(numbers)
            mark, text = kept_behind(numbers)
            self.assertEqual(editor.start(), [mark, len(text), 0])
            self.assertEqual((editor.text, editor.last, editor.safe), (text, mark, mark))

    def test_every_beginning_of_each_with_the_others_whole(self):
        for which, (call, length, marked) in enumerate(WRITES):
            for amount in range(length + 2):
                numbers = [HUGE] * len(WRITES)
                numbers[which] = amount
                editor = after_power(numbers)
                mark, text = kept_behind(numbers)
                self.assertEqual(editor.start(), [mark, len(text), 0])
                self.assertEqual(editor.text, text)

    def test_through_the_interface(self):
        calls = [call for call, length, marked in WRITES]
        self.assertEqual(told(*calls, power(9, 7, 6, 7, 7, 10, 7), START)[-2:], [[7], [1, 2, 0]])
        self.assertEqual(told(*calls, power(9, 7, 7, 7, 7, 10, 7), START)[-2:], [[7], [3, 4, 0]])
        self.assertEqual(told(*calls, power(0, 7, 7, 7, 7, 10, 7), START)[-2:], [[7], [0, 0, 0]])

    def test_bytes_of_the_text_that_look_like_a_record(self):
        # The change's bytes hold a whole mark 9, which must not be read as one where the change is cut.
        hidden = change(0, 0, [3, 252, 2, 9, 0, 11, 255])
        for amount in range(14):
            self.assertEqual(told(hidden, MARK, power(amount, 7), START)[-1], [0, 0, 0])
        self.assertEqual(told(hidden, MARK, power(14, 7), START)[-1], [1, 7, 0])


class Numbers(unittest.TestCase):
    def test_fewer_than_writes(self):
        self.assertEqual(told(change(0, 0, [1]), MARK, MARK, power(8, 7), START)[-2:], [[3], [1, 1, 0]])
        self.assertEqual(told(change(0, 0, [1]), MARK, MARK, power(), START)[-2:], [[3], [0, 0, 0]])

    def test_more_than_writes(self):
        self.assertEqual(told(MARK, power(7, 7, 1, 0, HUGE), START)[-2:], [[1], [1, 0, 0]])
        self.assertEqual(told(power(*[HUGE] * 60), START), [[0], [0, 0, 0]])

    def test_more_than_a_write_has(self):
        self.assertEqual(told(MARK, MARK, power(8, HUGE), START)[-2:], [[2], [2, 0, 0]])

    def test_nothing_is_on_its_way_afterwards(self):
        self.assertEqual(told(MARK, MARK, power(7), START, FLUSH), [[1, 22], [2, 29], [2], [1, 0, 0], [0, 1]])


class Start(unittest.TestCase):
    def test_other_file_is_in_use(self):
        given = told(change(0, 0, [1, 2]), MARK, power(9, 7), START, MARK, power(7), START, power(), START)
        self.assertEqual(given[2:], [[2], [1, 2, 0], [2, 24], [1], [2, 2, 1], [0], [2, 2, 0]])

    def test_what_stands_in_the_other_file(self):
        editor = Editor()
        editor.disk.put(1, [4] * 99)
        editor.change(0, 0, [9])
        editor.mark()
        editor.mark()
        editor.power([HUGE, HUGE])
        found = list(editor.disk.files[0])
        self.assertEqual(editor.start(), [1, 1, 0])
        self.assertEqual(editor.disk.files, [
            found, [2, 0, 255, 2, 253, 3, 9, 12, 255, 3, 252, 2, 1, 0, 3, 255]])
        self.assertEqual(editor.disk.writes, [])
        self.assertEqual((editor.used, editor.number, editor.size), (1, 2, 16))
        self.assertEqual((editor.last, editor.safe, editor.powered, editor.copying), (1, 1, True, False))

    def test_later_marks_are_made_anew(self):
        given = told(MARK, MARK, MARK, power(7), START, MARK, FLUSH)
        self.assertEqual(given[-3:], [[1, 0, 0], [2, 22], [1, 2]])

    def test_text_behind_the_mark_is_gone(self):
        given = told(change(0, 0, [1]), MARK, change(0, 0, [2]), FLUSH, power(), START, change(2, 0, []))
        self.assertEqual(given[-2:], [[1, 1, 0], [-1]])

    def test_number_0_behind_65535(self):
        editor = Editor()
        editor.power([])
        editor.disk.put(0, [255, 255] + editor.disk.files[0][2:])
        self.assertEqual(editor.start(), [0, 0, 0])
        self.assertEqual((editor.number, editor.disk.files[1][:3]), (0, [0, 0, 255]))

    def test_the_old_file_is_found_behind_number_0(self):
        editor = Editor()
        editor.power([])
        editor.disk.put(0, [255, 255] + editor.disk.files[0][2:])
        editor.start()
        editor.mark()
        editor.flush()
        editor.power([])
        self.assertEqual(editor.start(), [0, 0, 0])

    def test_files_alike(self):
        editor = Editor()
        editor.mark()
        editor.power([])
        editor.disk.put(1, editor.disk.files[0])
        self.assertEqual(editor.start(), [0, 0, 0])


class CopyThenPower(unittest.TestCase):
    MADE = [change(0, 0, [1, 2]), MARK]

    def test_every_beginning_of_the_copy(self):
        for amount in range(20):
            given = told(*self.MADE, COPY, power(amount), START, MARK, COPY)
            self.assertEqual(given[2:], [[17], [1], [1, 2, 0], [2, 24], [17]])

    def test_copy_flushed_without_its_head(self):
        self.assertEqual(told(*self.MADE, COPY, FLUSH, power(), START)[-2:], [[0], [1, 2, 0]])

    def test_head_written_half_written_or_not_at_all(self):
        for amount, found in ((0, [1, 2, 0]), (1, [1, 2, 0]), (2, [1, 2, 0]), (3, [2, 2, 1]), (HUGE, [2, 2, 1])):
            self.assertEqual(told(*self.MADE, COPY, TURN, power(amount), START)[-2:], [[1], found])

    def test_text_changed_ahead_of_the_copy_without_a_mark(self):
        for amount, found in ((2, [1, 2, 0]), (3, [2, 3, 1])):
            given = told(*self.MADE, change(0, 0, [5]), COPY, TURN, power(amount), START)
            self.assertEqual(given[-1], found)

    def test_records_behind_the_head_in_every_mixture(self):
        for head, changing, marking in itertools.product((0, 2, 3), (0, 7, 8), (0, 6, 7)):
            given = told(*self.MADE, COPY, TURN, change(2, 0, [3]), MARK, power(head, changing, marking), START)
            if head < 3:
                expected = [1, 2, 0]
            elif changing < 8 or marking < 7:
                expected = [2, 2, 1]
            else:
                expected = [3, 3, 1]
            self.assertEqual(given[-2:], [[3], expected])

    def test_turned_twice(self):
        given = told(COPY, TURN, MARK, COPY, TURN, power(3), START)
        self.assertEqual(given[-3:], [[3, 15], [1], [3, 0, 0]])
        given = told(COPY, TURN, MARK, COPY, TURN, power(2), START)
        self.assertEqual(given[-3:], [[3, 15], [1], [2, 0, 1]])

    def test_copy_is_over_behind_start(self):
        given = told(COPY, power(HUGE), START, change(0, 0, [1]), MARK, COPY, TURN)
        self.assertEqual(given[1:], [[1], [0, 0, 0], [1, 23], [1, 30], [16], [2, 16]])

    def test_copy_is_being_made_till_start(self):
        editor = Editor()
        editor.make_copy()
        editor.power([])
        self.assertTrue(editor.copying)
        editor.start()
        self.assertFalse(editor.copying)


if __name__ == "__main__":
    unittest.main()
