import unittest

from powerkept.disk import Disk, counts, head, next_number, with_bytes
from powerkept.records import change_record, mark_record, record, whole_record

FIRST = whole_record([]) + mark_record(0)


class Arriving(unittest.TestCase):
    def test_at_the_end(self):
        self.assertEqual(with_bytes([1, 2], 2, [3]), [1, 2, 3])

    def test_what_was_there_goes(self):
        self.assertEqual(with_bytes([1, 2, 3, 4], 1, [9, 9]), [1, 9, 9, 4])
        self.assertEqual(with_bytes([1, 2], 1, [9, 9]), [1, 9, 9])

    def test_bytes_0_between(self):
        self.assertEqual(with_bytes([], 3, [9]), [0, 0, 0, 9])
        self.assertEqual(with_bytes([1], 3, [9]), [1, 0, 0, 9])

    def test_nothing_arrives(self):
        self.assertEqual(with_bytes([1], 3, []), [1])

    def test_all(self):
        disk = Disk()
        disk.send(0, 2, [1, 2])
        disk.send(1, 0, [5])
        disk.send(0, 3, [3, 4])
        self.assertEqual(disk.files, [[], []])
        disk.arrive_all()
        self.assertEqual(disk.files, [[0, 0, 1, 3, 4], [5]])
        self.assertEqual(disk.writes, [])

    def some(self, numbers):
        disk = Disk()
        disk.send(0, 0, [1, 2])
        disk.send(0, 2, [3, 4])
        disk.send(0, 3, [5, 6])
        disk.arrive_some(numbers)
        self.assertEqual(disk.writes, [])
        self.assertEqual(disk.files[1], [])
        return disk.files[0]

    def test_a_beginning_of_each(self):
        self.assertEqual(self.some([1, 1, 1]), [1, 0, 3, 5])
        self.assertEqual(self.some([0, 2, 0]), [0, 0, 3, 4])
        self.assertEqual(self.some([2, 0, 2]), [1, 2, 0, 5, 6])
        self.assertEqual(self.some([2, 2, 1]), [1, 2, 3, 5])

    def test_numbers_not_told_are_0(self):
        self.assertEqual(self.some([]), [])
        self.assertEqual(self.some([1]), [1])
        self.assertEqual(self.some([0, 1]), [0, 0, 3])

    def test_more_than_a_write_has_and_more_than_there_are_writes(self):
        self.assertEqual(self.some([3, 4294967295, 2, 7, 7]), [1, 2, 3, 5, 6])


class Numbers(unittest.TestCase):
    def test_head(self):
        self.assertEqual(head(1), [1, 0, 255])
        self.assertEqual(head(258), [2, 1, 255])
        self.assertEqual(head(65535), [255, 255, 255])

    def test_next(self):
        self.assertEqual([next_number(number) for number in (0, 1, 255, 65534, 65535)], [1, 2, 256, 65535, 0])


class Counts(unittest.TestCase):
    def test_head_whole_text_and_mark(self):
        self.assertTrue(counts(head(1) + FIRST))
        self.assertTrue(counts(head(0) + FIRST))
        self.assertTrue(counts(head(1) + whole_record([7] * 200) + mark_record(300) + [1, 2, 3]))

    def test_head_not_there(self):
        self.assertFalse(counts([]))
        self.assertFalse(counts([1, 0]))
        self.assertFalse(counts(head(1)))
        self.assertFalse(counts([0, 0, 0] + FIRST))
        self.assertFalse(counts([1, 0, 0] + FIRST))
        self.assertFalse(counts([1, 0, 254] + FIRST))

    def test_first_is_no_whole_text(self):
        self.assertFalse(counts(head(1) + mark_record(0) + mark_record(0)))
        self.assertFalse(counts(head(1) + change_record(0, 0, [1]) + mark_record(0)))
        self.assertFalse(counts(head(1) + record([3] + [7] * 201) + mark_record(0)))

    def test_second_is_no_mark(self):
        self.assertFalse(counts(head(1) + whole_record([])))
        self.assertFalse(counts(head(1) + FIRST[:-1]))
        self.assertFalse(counts(head(1) + whole_record([]) + whole_record([]) + mark_record(0)))
        self.assertFalse(counts(head(1) + whole_record([]) + change_record(0, 0, [1]) + mark_record(0)))


class Found(unittest.TestCase):
    def found(self, row, other):
        disk = Disk()
        disk.put(0, row)
        disk.put(1, other)
        return disk.found_file()

    def test_the_one_that_counts(self):
        self.assertEqual(self.found(head(1) + FIRST, []), 0)
        self.assertEqual(self.found([], head(1) + FIRST), 1)
        self.assertEqual(self.found(head(9), head(1) + FIRST), 1)

    def test_the_greater_number(self):
        self.assertEqual(self.found(head(2) + FIRST, head(1) + FIRST), 0)
        self.assertEqual(self.found(head(1) + FIRST, head(2) + FIRST), 1)
        self.assertEqual(self.found(head(255) + FIRST, head(256) + FIRST), 1)
        self.assertEqual(self.found(head(65535) + FIRST, head(0) + FIRST), 0)

    def test_alike(self):
        self.assertEqual(self.found(head(7) + FIRST, head(7) + FIRST), 0)

    def test_none(self):
        self.assertIsNone(self.found([], []))
        self.assertIsNone(self.found(head(1), FIRST))


if __name__ == "__main__":
    unittest.main()
