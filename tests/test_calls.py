import unittest

from helper import COPY, FLUSH, HUGE, MARK, START, TURN, change, line, power, snapshot, told
from powerkept.editor import Editor, UnknownCall, answers

FULL = change(0, 0, [7] * 200)
# 15 bytes at first, 207 each for the two full changes, and 164 + 7: just 600.
TO_600 = [FULL, change(0, 200, [8] * 200), change(0, 164, [9] * 164)]


class Interface(unittest.TestCase):
    def test_count_before_each_answer(self):
        calls = line([change(0, 0, [65]), MARK, FLUSH, COPY, TURN, START, power(), START])
        expected = [2, 1, 23, 2, 1, 30, 2, 2, 1, 1, 16, 2, 2, 16, 1, -9, 1, 1, 3, 1, 1, 0]
        self.assertEqual(answers(calls), expected)

    def test_answers_are_a_list_of_int_alone(self):
        given = answers(line([change(0, 0, [65]), MARK, FLUSH, COPY, TURN, power(3), START]))
        self.assertIs(type(given), list)
        self.assertEqual({type(number) for number in given}, {int})

    def test_handed_in_list_stays_and_second_time_answers_alike(self):
        calls = line([change(0, 0, [65, 66]), MARK, COPY, TURN, change(1, 1, []), power(3, HUGE, 2), START])
        before = list(calls)
        first = answers(calls)
        self.assertEqual(calls, before)
        self.assertEqual({type(number) for number in calls}, {int})
        self.assertEqual(answers(calls), first)
        self.assertEqual(calls, before)

    def test_what_is_given_back_is_not_kept(self):
        calls = line([change(0, 0, [65]), MARK])
        answers(calls).clear()
        self.assertEqual(answers(calls), [2, 1, 23, 2, 1, 30])

    def test_fifty_calls(self):
        self.assertEqual(told(*[MARK] * 50)[-1], [50, 15 + 50 * 7])

    def test_rows_that_look_like_calls(self):
        self.assertEqual(told(change(0, 0, [1, 1, 1]), power(1, 1, 6), START), [[3, 25], [1], [0, 0, 0]])

    def test_unknown_call(self):
        with self.assertRaises(UnknownCall):
            answers([99])


class Beginning(unittest.TestCase):
    def test_line_begins_as_told(self):
        editor = Editor()
        first = [1, 0, 255, 1, 254, 3, 3, 255, 3, 252, 2, 0, 0, 2, 255]
        self.assertEqual(editor.disk.files, [first, []])
        self.assertEqual(editor.disk.writes, [])
        self.assertEqual((editor.text, editor.last, editor.safe), ([], 0, 0))
        self.assertEqual((editor.used, editor.number, editor.size), (0, 1, 15))
        self.assertEqual((editor.powered, editor.copying), (True, False))

    def test_power_at_once(self):
        self.assertEqual(told(power(), START), [[0], [0, 0, 0]])


class Change(unittest.TestCase):
    def test_size_of_text_and_file(self):
        given = told(change(0, 0, [1, 2, 3]), change(1, 1, [9, 9]), change(0, 4, []))
        self.assertEqual(given, [[3, 25], [4, 34], [0, 41]])

    def test_text(self):
        editor = Editor()
        for place, gone, coming, text in ((0, 0, [1, 2, 3], [1, 2, 3]), (1, 1, [8, 9], [1, 8, 9, 3]),
                                          (4, 0, [0, 255], [1, 8, 9, 3, 0, 255]), (0, 5, [], [255])):
            editor.change(place, gone, coming)
            self.assertEqual(editor.text, text)

    def test_appended_record(self):
        editor = Editor()
        editor.change(0, 0, [200, 100])
        editor.flush()
        self.assertEqual(editor.disk.files[0][15:], [5, 250, 1, 0, 0, 200, 100, 45, 255])

    def test_nothing_in_or_out_is_appended_too(self):
        self.assertEqual(told(change(0, 0, []), FLUSH), [[0, 22], [1, 0]])

    def test_at_the_very_end_and_beyond(self):
        given = told(change(0, 0, [1, 2]), change(2, 0, [3]), change(4, 0, [3]), change(4, 0, []), change(3, 1, []),
                     change(0, 4, []), change(2, 1, []), change(HUGE, 0, []), change(0, HUGE, []), change(1, HUGE, []))
        self.assertEqual(given, [[2, 24], [3, 32], [-1], [-1], [-1], [-1], [2, 39], [-1], [-1], [-1]])

    def test_byte_of_255_and_of_256(self):
        given = told(change(0, 0, [255]), change(0, 0, [256]), change(0, 0, [1, HUGE]), change(0, 0, [256, 1]))
        self.assertEqual(given, [[1, 23], [-1], [-1], [-1]])

    def test_text_of_200_bytes_and_of_201(self):
        self.assertEqual(told(FULL), [[200, 222]])
        self.assertEqual(told(change(0, 0, [7] * 201), change(0, 0, [7] * 260)), [[-5], [-5]])
        given = told(FULL, change(0, 0, [1]), change(200, 0, [1]), change(3, 1, [1, 2]), change(3, 2, [1, 2]))
        self.assertEqual(given, [[200, 222], [-5], [-5], [-5], [200, 231]])

    def test_file_of_600_bytes_and_of_601(self):
        self.assertEqual(told(*TO_600)[-1], [200, 600])
        self.assertEqual(told(*TO_600[:2], change(0, 165, [9] * 165), change(0, 164, [9] * 164))[2:], [[-6], [200, 600]])
        self.assertEqual(told(*TO_600, change(0, 0, []))[-1], [-6])

    def test_the_refusal_told_first(self):
        self.assertEqual(told(*TO_600, change(0, 0, [1]))[-1], [-5])
        self.assertEqual(told(*TO_600, change(0, 0, [256]))[-1], [-1])
        self.assertEqual(told(*TO_600, change(201, 0, [1]))[-1], [-1])
        self.assertEqual(told(change(0, 0, [256] * 201)), [[-1]])
        self.assertEqual(told(COPY, change(1, 0, [256] * 201))[-1], [-8])
        self.assertEqual(told(COPY, power(), change(1, 0, [256] * 201))[-1], [-9])


class Mark(unittest.TestCase):
    def test_one_more_than_the_last(self):
        self.assertEqual(told(MARK, change(0, 0, [1]), MARK), [[1, 22], [1, 30], [2, 37]])

    def test_appended_record(self):
        editor = Editor()
        editor.mark()
        editor.flush()
        self.assertEqual(editor.disk.files[0][15:], [3, 252, 2, 1, 0, 3, 255])

    def test_file_of_600_bytes_and_of_601(self):
        to_593 = TO_600[:2] + [change(0, 157, [9] * 157)]
        to_594 = TO_600[:2] + [change(0, 158, [9] * 158)]
        self.assertEqual(told(*to_593, MARK, MARK)[2:], [[200, 593], [1, 600], [-6]])
        self.assertEqual(told(*to_594, MARK)[2:], [[200, 594], [-6]])

    def with_last_mark(self, last):
        editor = Editor()
        while editor.last < last:
            if editor.mark() == [-6]:
                editor.make_copy()
                editor.turn()
        self.assertEqual(editor.last, last)
        return editor

    def test_last_mark_of_199_and_of_200(self):
        editor = self.with_last_mark(199)
        size = editor.size
        self.assertEqual(editor.mark(), [200, size + 7])
        self.assertEqual(editor.mark(), [-5])
        editor.size = 600
        self.assertEqual(editor.mark(), [-5])

    def test_copy_with_last_mark_of_199_and_of_200(self):
        editor = self.with_last_mark(199)
        self.assertEqual(editor.make_copy(), [15])
        self.assertEqual(editor.turn(), [200, 15])
        before = snapshot(editor)
        self.assertEqual(editor.make_copy(), [-5])
        self.assertEqual(snapshot(editor), before)

    def test_last_mark_above_200(self):
        editor = Editor()
        editor.last = 65535
        self.assertEqual(editor.mark(), [-5])
        self.assertEqual(editor.make_copy(), [-5])


class Flush(unittest.TestCase):
    def test_writes_and_safe_mark(self):
        given = told(FLUSH, change(0, 0, [1]), MARK, MARK, FLUSH, change(0, 0, [1]), FLUSH, FLUSH)
        self.assertEqual([given[0], given[4], given[6], given[7]], [[0, 0], [3, 2], [1, 2], [0, 2]])

    def test_flushed_is_there_without_power(self):
        given = told(change(0, 0, [1, 2]), MARK, FLUSH, MARK, power(), START)
        self.assertEqual(given[-2:], [[1], [1, 2, 0]])

    def test_while_a_copy_is_made(self):
        given = told(MARK, COPY, FLUSH, FLUSH, TURN, FLUSH)
        self.assertEqual(given[1:], [[15], [1, 1], [0, 1], [2, 15], [1, 2]])

    def test_safe_is_the_last_mark_then(self):
        editor = Editor()
        editor.mark()
        self.assertEqual(editor.safe, 0)
        editor.flush()
        self.assertEqual(editor.safe, 1)


class CopyAndTurn(unittest.TestCase):
    def test_answers(self):
        given = told(change(0, 0, [1, 2, 3]), MARK, COPY, TURN, MARK, change(3, 0, [4]), COPY, TURN)
        self.assertEqual(given, [[3, 25], [1, 32], [18], [2, 18], [3, 25], [4, 33], [19], [4, 19]])

    def test_nothing_but_the_copy_is_made_until_turn(self):
        given = told(COPY, change(0, 0, [1]), MARK, COPY, TURN, change(0, 0, [1]), MARK, COPY)
        self.assertEqual(given, [[15], [-8], [-8], [-8], [1, 15], [1, 23], [2, 30], [16]])

    def test_turn_without_copy(self):
        self.assertEqual(told(TURN, COPY, TURN, TURN), [[-8], [15], [1, 15], [-8]])
        self.assertEqual(told(COPY, power(), START, TURN)[-1], [-8])

    def test_copy_flushes_and_empties_the_other_file_at_once(self):
        editor = Editor()
        editor.disk.put(1, [1, 2, 3])
        editor.change(0, 0, [9])
        editor.mark()
        editor.make_copy()
        self.assertEqual(len(editor.disk.files[0]), 30)
        self.assertEqual(editor.disk.files[1], [])
        self.assertEqual((editor.last, editor.safe, editor.used, editor.copying), (1, 1, 0, True))
        writes = [(write.file, write.place, write.coming) for write in editor.disk.writes]
        self.assertEqual(writes, [(1, 3, [2, 253, 3, 9, 12, 255, 3, 252, 2, 2, 0, 4, 255])])

    def test_turn_has_one_write_on_its_way(self):
        editor = Editor()
        editor.make_copy()
        editor.turn()
        self.assertEqual(editor.disk.files[1], [0, 0, 0, 1, 254, 3, 3, 255, 3, 252, 2, 1, 0, 3, 255])
        writes = [(write.file, write.place, write.coming) for write in editor.disk.writes]
        self.assertEqual(writes, [(1, 0, [2, 0, 255])])
        self.assertEqual((editor.used, editor.number, editor.size), (1, 2, 15))
        self.assertEqual((editor.last, editor.safe, editor.copying), (1, 0, False))

    def test_number_0_behind_65535(self):
        editor = Editor()
        editor.number = 65535
        editor.make_copy()
        editor.turn()
        self.assertEqual(editor.number, 0)
        self.assertEqual(editor.disk.writes[0].coming, [0, 0, 255])

    def test_a_full_file_is_begun_anew(self):
        self.assertEqual(told(*TO_600, COPY, TURN, change(0, 1, []))[3:], [[215], [1, 215], [199, 222]])

    def test_text_without_bytes(self):
        self.assertEqual(told(change(0, 0, [1]), change(0, 1, []), COPY, TURN, power(3), START)[2:],
                         [[15], [1, 15], [1], [1, 0, 1]])


class Refused(unittest.TestCase):
    EVERY = [change(0, 0, [1]), MARK, FLUSH, COPY, TURN, power(9)]

    def test_without_power(self):
        for call in self.EVERY:
            self.assertEqual(told(power(), call)[-1], [-9])
            self.assertEqual(told(COPY, power(), call)[-1], [-9])

    def test_start_with_power(self):
        self.assertEqual(told(START), [[-9]])
        self.assertEqual(told(power(), START, START), [[0], [0, 0, 0], [-9]])
        self.assertEqual(told(COPY, START), [[15], [-9]])

    def test_start_where_no_file_counts(self):
        editor = Editor()
        editor.change(0, 0, [1])
        editor.power([])
        editor.disk.put(0, editor.disk.files[0][:-1])
        before = snapshot(editor)
        self.assertEqual(editor.start(), [-6])
        self.assertEqual(snapshot(editor), before)

    def test_start_with_power_where_no_file_counts(self):
        editor = Editor()
        editor.disk.put(0, [])
        self.assertEqual(editor.start(), [-9])

    def check_as_it_was(self, editor, refused):
        for call, arguments, refusal in refused:
            before = snapshot(editor)
            handed = [list(value) if isinstance(value, list) else value for value in arguments]
            self.assertEqual(getattr(editor, call)(*arguments), [refusal])
            self.assertEqual(snapshot(editor), before)
            self.assertEqual(list(arguments), handed)

    def test_all_is_as_it_was(self):
        editor = Editor()
        editor.change(0, 0, [7] * 200)
        editor.change(0, 200, [8] * 200)
        editor.change(0, 164, [9] * 164)
        self.check_as_it_was(editor, [
            ("change", (201, 0, []), -1), ("change", (0, 0, [256]), -1), ("change", (0, 0, [1]), -5),
            ("change", (0, 1, []), -6), ("mark", (), -6), ("turn", (), -8), ("start", (), -9)])
        editor.make_copy()
        self.check_as_it_was(editor, [
            ("change", (0, 1, []), -8), ("mark", (), -8), ("make_copy", (), -8), ("start", (), -9)])
        editor.power([5])
        self.check_as_it_was(editor, [
            ("change", (0, 1, []), -9), ("mark", (), -9), ("flush", (), -9), ("make_copy", (), -9),
            ("turn", (), -9), ("power", ([1],), -9)])

    def test_mark_and_copy_behind_mark_200_leave_all_as_it_was(self):
        editor = Editor()
        editor.last = 200
        editor.change(0, 0, [1])
        self.check_as_it_was(editor, [("mark", (), -5), ("make_copy", (), -5)])

    def test_a_line_answers_as_without_the_refused(self):
        plain = [change(0, 0, [1, 2]), MARK, COPY, TURN, change(2, 0, [3]), MARK, power(3, 8), START, FLUSH]
        refused = {1: change(3, 0, []), 2: TURN, 3: MARK, 5: change(0, 0, [1] * 198), 6: START, 7: power(HUGE, HUGE)}
        mixed, asked = [], []
        for place, call in enumerate(plain):
            if place in refused:
                mixed.append(refused[place])
            asked.append(len(mixed))
            mixed.append(call)
        given = told(*mixed)
        self.assertEqual([given[place] for place in asked], told(*plain))
        others = [given[place] for place in range(len(given)) if place not in asked]
        self.assertEqual(others, [[-1], [-8], [-8], [-5], [-9], [-9]])


if __name__ == "__main__":
    unittest.main()
