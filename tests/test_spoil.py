"""spoil, and what start finds then."""

import unittest

from helper import COPY, FLUSH, HUGE, MARK, SHOWS, START, STATE, TURN, change, on_disk, power, snapshot, spoil, told, was
from powerkept.editor import Editor

FIRST = [1, 0, 255, 1, 254, 3, 3, 255, 3, 252, 2, 0, 0, 2, 255]
# Where the first file's bytes lie: the whole text's record from 3 on, the mark's from 8 on.
MARK_LOW, MARK_HIGH, MARK_SUM = 11, 12, 13
# Three marks, each safe: their records end at 30, 45 and 60.
THREE = [change(0, 0, [1]), MARK, change(1, 0, [2]), MARK, change(2, 0, [3]), MARK, FLUSH, power()]
TEXTS = {0: [], 1: [1], 2: [1, 2], 3: [1, 2, 3]}


def mark_spoilt_to(number, low_at=MARK_LOW):
    low, high = number % 256, number // 256
    return [spoil(0, low_at, low), spoil(0, low_at + 1, high), spoil(0, low_at + 2, (2 + low + high) % 256)]


class Spoil(unittest.TestCase):
    def test_answers_what_it_was(self):
        for place, byte in enumerate(FIRST):
            given = told(power(), spoil(0, place, 77), spoil(0, place, 78), on_disk(0))
            self.assertEqual(given[1:3], [[byte], [77]])
            self.assertEqual(given[3], [15] + FIRST[:place] + [78] + FIRST[place + 1:])

    def test_the_other_file(self):
        given = told(COPY, TURN, FLUSH, power(), spoil(1, 0, 9), on_disk(1), on_disk(0))
        self.assertEqual(given[4:], [[2], [15, 9, 0, 255, 1, 254, 3, 3, 255, 3, 252, 2, 1, 0, 3, 255], [15] + FIRST])

    def test_byte_of_0_and_255(self):
        self.assertEqual(told(power(), spoil(0, 2, 0), spoil(0, 2, 255), spoil(0, 2, 255))[1:], [[255], [0], [255]])

    def test_bytes_that_arrived_when_power_went(self):
        self.assertEqual(told(MARK, power(2), spoil(0, 16, 5), spoil(0, 17, 5), on_disk(0))[2:],
                         [[252], [-1], [17] + FIRST + [3, 5]])

    def test_no_such_byte(self):
        given = told(power(), spoil(0, 14, 1), spoil(0, 15, 1), spoil(0, HUGE, 1), spoil(1, 0, 1), spoil(1, HUGE, 0))
        self.assertEqual(given[1:], [[255], [-1], [-1], [-1], [-1]])

    def test_byte_above_255(self):
        self.assertEqual(told(power(), spoil(0, 0, 256), spoil(0, 0, HUGE), spoil(0, 15, 256))[1:], [[-1]] * 3)

    def test_with_power(self):
        self.assertEqual(told(spoil(0, 0, 1), COPY, spoil(0, 0, 1), power(), START, spoil(0, 0, 1))[::2],
                         [[-9], [-9], [0, 0, 0]])
        self.assertEqual(told(power(), START, spoil(0, 0, 1))[-1], [-9])

    def test_power_is_told_ahead_of_the_place_and_the_byte(self):
        self.assertEqual(told(spoil(0, 15, 1), spoil(1, 0, 1), spoil(0, 0, 256), spoil(0, HUGE, HUGE)), [[-9]] * 4)

    def check_as_it_was(self, editor, refusal, *asked):
        for arguments in asked:
            before = snapshot(editor)
            self.assertEqual(editor.spoil(*arguments), [refusal])
            self.assertEqual(snapshot(editor), before)

    def test_refused_leaves_all_as_it_was(self):
        editor = Editor()
        editor.change(0, 0, [1])
        self.check_as_it_was(editor, -9, (0, 0, 1), (0, 99, 256))
        editor.power([4])
        self.check_as_it_was(editor, -1, (0, 99, 1), (0, 0, 256), (1, 0, 0))

    def test_only_that_byte_is_changed(self):
        editor = Editor()
        editor.mark()
        editor.make_copy()
        editor.power([9])
        before = snapshot(editor)
        editor.spoil(0, 5, 200)
        before[1]["files"][0][5] = 200
        self.assertEqual(snapshot(editor), before)


class SpoiltHead(unittest.TestCase):
    def test_no_file_counts(self):
        for byte in (0, 254):
            given = told(power(), spoil(0, 2, byte), START, START, STATE, on_disk(0), on_disk(1))
            self.assertEqual(given[2:4], [[-6], [-6]])
            self.assertEqual(given[4:], [[0, 0, 0, 0, 0, 1, 15, 0], [15, 1, 0, byte] + FIRST[3:], [0]])

    def test_mended(self):
        self.assertEqual(told(power(), spoil(0, 2, 0), START, spoil(0, 2, 255), START)[2:], [[-6], [0], [0, 0, 0]])

    def test_start_is_refused_for_power_first(self):
        self.assertEqual(told(power(), START, power(), spoil(0, 2, 0), spoil(1, 2, 0), START)[-1], [-6])
        self.assertEqual(told(START)[-1], [-9])

    def test_the_old_file_is_found(self):
        made = [change(0, 0, [1]), MARK, COPY, TURN, FLUSH, power()]
        self.assertEqual(told(*made, START)[-1], [2, 1, 1])
        self.assertEqual(told(*made, spoil(1, 2, 7), START)[-1], [1, 1, 0])
        self.assertEqual(told(*made, spoil(0, 2, 7), START)[-1], [2, 1, 1])
        self.assertEqual(told(*made, spoil(0, 2, 7), spoil(1, 2, 7), START)[-1], [-6])

    def test_both_files_spoilt_behind_start(self):
        given = told(*THREE, START, power(), spoil(0, 7, 0), spoil(1, 2, 0), START, STATE)
        self.assertEqual(given[-2:], [[-6], [0, 3, 3, 0, 1, 2, 18, 0]])

    def test_a_copy_with_a_head_of_spoilt_bytes(self):
        # Its head is 0 0 255 then: it counts, with number 0, and is found as soon as the other doesn't count.
        made = [change(0, 0, [9]), COPY, power(HUGE), spoil(1, 2, 255)]
        self.assertEqual(told(*made, START)[-1], [0, 0, 0])
        given = told(*made, spoil(0, 2, 0), START, SHOWS, was(1), STATE, on_disk(0))
        self.assertEqual(given[5:9], [[1, 1, 1], [1, 9], [-2], [1, 1, 1, 0, 0, 1, 16, 0]])
        self.assertEqual(given[9], [16, 1, 0, 255, 2, 253, 3, 9, 12, 255, 3, 252, 2, 1, 0, 3, 255])


class SpoiltNumber(unittest.TestCase):
    def test_number_behind_the_one_found(self):
        for low, high, number in ((7, 0, 8), (255, 0, 256), (0, 1, 257), (254, 255, 65535)):
            given = told(power(), spoil(0, 0, low), spoil(0, 1, high), START, STATE, on_disk(1))
            self.assertEqual(given[3:5], [[0, 0, 0], [1, 0, 0, 0, 1, number, 15, 0]])
            self.assertEqual(given[5], [15, number % 256, number // 256] + FIRST[2:])

    def test_the_greater_is_found(self):
        made = [COPY, TURN, FLUSH, power()]
        for low, high, found in ((1, 0, [1, 0, 1]), (2, 0, [0, 0, 0]), (3, 0, [0, 0, 0]), (0, 1, [0, 0, 0]),
                                 (0, 0, [1, 0, 1])):
            self.assertEqual(told(*made, spoil(0, 0, low), spoil(0, 1, high), START)[-1], found)
        self.assertEqual(told(*made, spoil(1, 0, 1), START)[-1], [0, 0, 0])
        self.assertEqual(told(*made, spoil(1, 0, 0), spoil(1, 1, 1), START)[-1], [1, 0, 1])

    def test_0_behind_65535(self):
        given = told(power(), spoil(0, 0, 255), spoil(0, 1, 255), START, STATE, on_disk(1))
        self.assertEqual(given[3:], [[0, 0, 0], [1, 0, 0, 0, 1, 0, 15, 0], [15, 0, 0, 255] + FIRST[3:]])

    def test_what_comes_behind_65535(self):
        given = told(power(), spoil(0, 0, 255), spoil(0, 1, 255), START, change(0, 0, [1]), MARK, FLUSH, power(), START,
                     was(1), STATE)
        self.assertEqual(given[-4:], [[0], [0, 0, 0], [-2], [1, 0, 0, 0, 1, 0, 15, 0]])

    def test_turn_behind_65535(self):
        # File 1 gets the number 65535, so that the copy in file 0 gets 0; the old file is the one found then.
        made = [power(), spoil(0, 0, 254), spoil(0, 1, 255), START, STATE, COPY, TURN, STATE, FLUSH, on_disk(0)]
        given = told(*made, power(), START, STATE)
        self.assertEqual(given[4], [1, 0, 0, 0, 1, 65535, 15, 0])
        self.assertEqual(given[7], [1, 1, 0, 1, 0, 0, 15, 0])
        self.assertEqual(given[9][:4], [15, 0, 0, 255])
        self.assertEqual(given[-2:], [[0, 0, 1], [1, 0, 0, 0, 0, 0, 15, 0]])


class SpoiltRecord(unittest.TestCase):
    def test_every_byte_of_three_marks(self):
        self.assertEqual(told(*THREE, START)[-1], [3, 3, 0])
        for place in range(15, 60):
            # Each 15 bytes are a change and its mark: reading ends in them, at the mark ahead.
            mark = (place - 15) // 15
            before = told(*THREE, on_disk(0))[-1][1 + place]
            for byte in ((before + 1) % 256, 255 - before, before ^ 128):
                given = told(*THREE, spoil(0, place, byte), START, SHOWS)
                self.assertEqual(given[-3:], [[before], [mark, mark, 0], [mark] + TEXTS[mark]])

    def test_first_two_records(self):
        for place in range(3, 15):
            self.assertEqual(told(*THREE, spoil(0, place, FIRST[place] ^ 1), START)[-1], [-6])

    def test_a_byte_spoilt_and_mended(self):
        self.assertEqual(told(*THREE, spoil(0, 20, 9), spoil(0, 20, 1), START, SHOWS)[-2:], [[3, 3, 0], [3, 1, 2, 3]])

    def test_text_and_sum_spoilt_together(self):
        # The first change's byte lies at 20, its sum at 21: nobody can notice both.
        given = told(*THREE, spoil(0, 20, 9), spoil(0, 21, 10), START, SHOWS, was(3), was(1))
        self.assertEqual(given[-4:], [[3, 3, 0], [3, 9, 2, 3], [3, 1, 2, 3], [1, 1]])

    def test_a_change_beyond_the_end(self):
        # The second change's place lies at 33, its sum at 36.
        given = told(*THREE, spoil(0, 33, 2), spoil(0, 36, 5), START, SHOWS)
        self.assertEqual(given[-4:], [[1], [4], [1, 1, 0], [1, 1]])

    def test_first_is_no_whole_text_then(self):
        self.assertEqual(told(power(), spoil(0, 5, 4), spoil(0, 6, 4), START)[-1], [-6])

    def test_second_is_no_mark_then(self):
        self.assertEqual(told(power(), spoil(0, 10, 1), spoil(0, 13, 1), START)[-1], [-6])
        self.assertEqual(told(power(), spoil(0, 10, 3), spoil(0, 13, 3), START)[-1], [-6])

    def test_whole_text_of_more_than_200_bytes(self):
        # The copy's record is framed anew, so that its text takes in the mark behind it; the mark behind that is second.
        made = [change(0, 0, [7] * 200), COPY, TURN, MARK, FLUSH, power()]
        row = told(*made, on_disk(1))[-1][1:]
        self.assertEqual(told(*made, START)[-1], [2, 200, 1])
        size = 201 + 7
        total = sum(row[5:5 + size]) % 256
        framed = [spoil(1, 3, size), spoil(1, 4, 255 - size), spoil(1, 5 + size, total), spoil(1, 6 + size, 255)]
        self.assertEqual(told(*made, *framed, START)[-1], [0, 0, 0])


class SpoiltMark(unittest.TestCase):
    def test_a_mark_that_only_spoilt_bytes_tell(self):
        given = told(power(), *mark_spoilt_to(300), START, was(300), was(0), STATE, was(44))
        self.assertEqual(given[4:], [[300, 0, 0], [-2], [0], [1, 300, 300, 0, 1, 2, 15, 0], [-2]])

    def test_marks_behind_it_are_remembered(self):
        given = told(power(), *mark_spoilt_to(5), START, change(0, 0, [8]), MARK, was(5), was(6), COPY, TURN, was(7))
        self.assertEqual(given[4:], [[5, 0, 0], [1, 23], [6, 30], [-2], [1, 8], [16], [7, 16], [1, 8]])

    def test_earlier_ones_stay_and_greater_ones_go(self):
        # The third mark's number lies at 56.
        given = told(*THREE, *mark_spoilt_to(2, 56), START, SHOWS, was(1), was(2), was(3))
        self.assertEqual(given[-5:], [[2, 3, 0], [3, 1, 2, 3], [1, 1], [2, 1, 2], [-2]])
        given = told(*THREE, *mark_spoilt_to(9, 56), START, was(2), was(3), was(9))
        self.assertEqual(given[-4:], [[9, 3, 0], [2, 1, 2], [3, 1, 2, 3], [-2]])

    def test_a_mark_that_is_gone_and_told_again_by_spoilt_bytes(self):
        given = told(MARK, MARK, power(), START, power(), *mark_spoilt_to(2), spoil(1, 2, 0), START, was(1), was(2))
        self.assertEqual(given[-3:], [[2, 0, 0], [-2], [-2]])

    def test_mark_0_told_by_spoilt_bytes(self):
        given = told(*THREE, *mark_spoilt_to(0, 56), START, SHOWS, was(0), was(1), MARK, was(1))
        self.assertEqual(given[-6:], [[0, 3, 0], [3, 1, 2, 3], [0], [-2], [1, 25], [3, 1, 2, 3]])

    def test_last_mark_of_199_200_and_201(self):
        for number, marked, copied in ((199, [200, 22], [15]), (200, [-5], [-5]), (201, [-5], [-5]), (65535, [-5], [-5])):
            begin = [power(), *mark_spoilt_to(number), START]
            self.assertEqual(told(*begin, MARK)[-2:], [[number, 0, 0], marked])
            self.assertEqual(told(*begin, COPY)[-1], copied)
            self.assertEqual(told(*begin, STATE, MARK if marked == [-5] else STATE, STATE)[-1],
                             [1, number, number, 0, 1, 2, 15, 0])
        given = told(power(), *mark_spoilt_to(199), START, COPY, TURN, MARK, COPY, was(199), was(200))
        self.assertEqual(given[5:], [[15], [200, 15], [-5], [-5], [-2], [0]])

    def test_refusals_behind_mark_200(self):
        begin = [power(), *mark_spoilt_to(199), START, COPY]
        self.assertEqual(told(*begin, MARK, COPY, power(), MARK, COPY)[6:], [[-8], [-8], [1], [-9], [-9]])
        full = [change(0, 0, [7] * 200), change(0, 200, [8] * 200), change(0, 164, [9] * 164)]
        self.assertEqual(told(power(), *mark_spoilt_to(200), START, *full, MARK)[-2:], [[200, 600], [-5]])

    def test_high_byte_is_written_again_by_start(self):
        given = told(power(), *mark_spoilt_to(0x1234), START, on_disk(1), power(), START)
        self.assertEqual(given[5], [15, 2, 0, 255, 1, 254, 3, 3, 255, 3, 252, 2, 0x34, 0x12, 0x48, 255])
        self.assertEqual(given[-1], [0x1234, 0, 1])


if __name__ == "__main__":
    unittest.main()
