"""read: what is read in bytes that are handed in."""

import unittest

from helper import COPY, FLUSH, HUGE, MARK, STATE, change, on_disk, power, read, told
from powerkept.editor import answers

MARK_1 = [3, 252, 2, 1, 0, 3, 255]
MARK_7 = [3, 252, 2, 7, 0, 9, 255]
AB = [3, 252, 3, 65, 66, 134, 255]
NOTHING = [0, 0, 0, 0]


def record(body):
    return [len(body), 255 - len(body)] + body + [sum(body) % 256, 255]


def whole(length):
    return record([3] + [7] * length)


def read_alone(*rows):
    return told(read([number for row in rows for number in row]))[0]


class Records(unittest.TestCase):
    def test_no_bytes(self):
        self.assertEqual(answers([10, 0]), [4, 0, 0, 0, 0])

    def test_whole_text(self):
        self.assertEqual(read_alone(AB), [1, 0, 0, 2, 65, 66])
        self.assertEqual(read_alone(AB, whole(0)), [2, 0, 0, 0])

    def test_mark(self):
        self.assertEqual(read_alone(MARK_7), [1, 7, 0, 0])
        self.assertEqual(read_alone(AB, MARK_7), [2, 7, 2, 65, 66, 2, 65, 66])
        self.assertEqual(read_alone(AB, record([2, 255, 255])), [2, 65535, 2, 65, 66, 2, 65, 66])

    def test_change(self):
        self.assertEqual(read_alone(record([1, 0, 0, 5, 6])), [1, 0, 0, 2, 5, 6])
        self.assertEqual(read_alone(AB, record([1, 1, 1, 5, 6])), [2, 0, 0, 3, 65, 5, 6])
        self.assertEqual(read_alone(AB, record([1, 0, 1])), [2, 0, 0, 1, 66])
        self.assertEqual(read_alone(record([1, 0, 0])), [1, 0, 0, 0])

    def test_kept_and_text_at_last(self):
        given = read_alone(AB, MARK_1, record([1, 2, 0, 67]), MARK_7, record([1, 0, 3]))
        self.assertEqual(given, [5, 7, 3, 65, 66, 67, 0])

    def test_a_later_mark_may_have_a_smaller_number(self):
        self.assertEqual(read_alone(MARK_7, AB, MARK_1), [3, 1, 2, 65, 66, 2, 65, 66])

    def test_longest_body(self):
        self.assertEqual(read_alone(MARK_7, whole(254), MARK_1), [3, 7, 0, 0])
        self.assertEqual(read_alone(MARK_7, record([1, 0, 0] + [7] * 252), MARK_1), [3, 7, 0, 0])

    def test_a_file_of_the_disk_behind_its_head(self):
        kept = told(change(0, 0, [65, 66]), MARK, change(0, 1, []), FLUSH, on_disk(0))[-1]
        self.assertEqual(read_alone(kept[4:]), [5, 1, 2, 65, 66, 1, 66])


class NotRight(unittest.TestCase):
    def check(self, row):
        """Reading ends at the record, be it the first or not, whatever comes behind."""
        self.assertEqual(read_alone(row), NOTHING)
        self.assertEqual(read_alone(row, MARK_1), NOTHING)
        self.assertEqual(read_alone(AB, MARK_7, row, MARK_1), [2, 7, 2, 65, 66, 2, 65, 66])

    def test_first_two_not_together_255(self):
        self.check([3, 251, 2, 1, 0, 3, 255])
        self.check([3, 253, 2, 1, 0, 3, 255])
        self.check([2, 252, 2, 1, 0, 3, 255])

    def test_first_is_0(self):
        self.check([0, 255, 0, 255])

    def test_body_or_the_two_bytes_behind_it_not_there(self):
        for length in range(7):
            self.assertEqual(read_alone(AB, MARK_1[:length]), [1, 0, 0, 2, 65, 66])
        self.assertEqual(read_alone([255, 0, 3] + [7] * 254 + [(3 + 7 * 254) % 256]), NOTHING)
        self.check([250, 5, 3])

    def test_sum(self):
        self.check([3, 252, 2, 1, 0, 2, 255])
        self.check([3, 252, 2, 1, 0, 4, 255])

    def test_sum_is_modulo_256(self):
        self.assertEqual(read_alone([3, 252, 2, 255, 0, 1, 255]), [1, 255, 0, 0])
        self.check([3, 252, 2, 255, 0, 255, 255])

    def test_last_byte(self):
        self.check([3, 252, 2, 1, 0, 3, 254])
        self.check([3, 252, 2, 1, 0, 3, 0])

    def test_sort(self):
        for sort in (0, 4, 255):
            self.check(record([sort]))
            self.check(record([sort, 0, 0]))

    def test_change_without_its_two_numbers(self):
        self.check(record([1]))
        self.check(record([1, 0]))

    def test_mark_of_other_than_three_bytes(self):
        self.check(record([2]))
        self.check(record([2, 1]))
        self.check(record([2, 1, 0, 0]))

    def test_every_byte_spoilt_to_every_other(self):
        for row in (AB, MARK_1, record([1, 1, 1, 9, 8])):
            for place in range(len(row)):
                for byte in range(256):
                    if byte != row[place]:
                        spoilt = row[:place] + [byte] + row[place + 1:]
                        self.assertEqual(read_alone(AB, MARK_7, spoilt, MARK_1), [2, 7, 2, 65, 66, 2, 65, 66])


class NothingFurther(unittest.TestCase):
    """The records are read all the same, and counted."""

    def test_change_beyond_the_end(self):
        for body in ([1, 3, 0, 9], [1, 3, 0], [1, 2, 1], [1, 0, 3], [1, 255, 255, 9]):
            given = read_alone(AB, MARK_1, record(body), whole(1), MARK_7)
            self.assertEqual(given, [5, 1, 2, 65, 66, 2, 65, 66])
        self.assertEqual(read_alone(AB, MARK_1, record([1, 2, 0, 9]), MARK_7), [4, 7, 3, 65, 66, 9, 3, 65, 66, 9])
        self.assertEqual(read_alone(AB, MARK_1, record([1, 0, 2]), MARK_7), [4, 7, 0, 0])

    def test_change_to_more_than_200(self):
        at_200 = [1, 0, 0] + [7] * 200
        self.assertEqual(read_alone(record(at_200), MARK_7), [2, 7] + [200] + [7] * 200 + [200] + [7] * 200)
        self.assertEqual(read_alone(record(at_200 + [7]), MARK_7), [2, 0, 0, 0])
        given = read_alone(whole(200), record([1, 200, 0, 9]), MARK_7)
        self.assertEqual(given, [3, 0, 0, 200] + [7] * 200)
        given = read_alone(whole(200), record([1, 0, 1, 9]), MARK_7)
        self.assertEqual(given, [3, 7] + ([200, 9] + [7] * 199) * 2)

    def test_whole_text_of_more_than_200(self):
        self.assertEqual(read_alone(whole(200), MARK_7), [2, 7] + ([200] + [7] * 200) * 2)
        self.assertEqual(read_alone(AB, MARK_1, whole(201), MARK_7), [4, 1, 2, 65, 66, 2, 65, 66])
        self.assertEqual(read_alone(AB, MARK_1, whole(201), whole(1), MARK_7), [5, 1, 2, 65, 66, 2, 65, 66])


class Refused(unittest.TestCase):
    def test_400_and_401_bytes(self):
        self.assertEqual(read_alone(AB, [0] * 393), [1, 0, 0, 2, 65, 66])
        self.assertEqual(read_alone(AB, [0] * 394), [-1])
        self.assertEqual(read_alone([0] * 410), [-1])
        self.assertEqual(read_alone([255] * 400), NOTHING)

    def test_400_bytes_of_records(self):
        self.assertEqual(read_alone(*[MARK_1] * 56, record([2, 9, 0]), [0])[:2], [57, 9])

    def test_byte_above_255(self):
        self.assertEqual(read_alone([255]), NOTHING)
        for number in (256, HUGE):
            self.assertEqual(read_alone([number]), [-1])
            self.assertEqual(read_alone(AB, [number]), [-1])
            self.assertEqual(read_alone([number], AB), [-1])
            self.assertEqual(read_alone([0] * 399, [number]), [-1])
            self.assertEqual(read_alone([0] * 400, [number]), [-1])


class WithAndWithoutPower(unittest.TestCase):
    def test_answers_alike(self):
        row = AB + MARK_7
        given = told(read(row), COPY, read(row), power(), read(row), read([256]))
        self.assertEqual(given[::2], [[2, 7, 2, 65, 66, 2, 65, 66]] * 3)
        self.assertEqual(given[-1], [-1])

    def test_the_editor_is_not_about_it(self):
        given = told(change(0, 0, [1]), MARK, STATE, read(AB + MARK_7), STATE, on_disk(0), on_disk(1), read([0] * 401),
                     STATE, MARK)
        self.assertEqual(given[2], given[4])
        self.assertEqual(given[2], given[8])
        self.assertEqual((given[5][0], given[6], given[9]), (15, [0], [2, 37]))

    def test_bytes_that_look_like_calls(self):
        self.assertEqual(told(read([1, 1, 5, 0, 10]), MARK), [NOTHING, [1, 22]])


if __name__ == "__main__":
    unittest.main()
