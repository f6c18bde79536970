import unittest

from powerkept.records import bring_about, change_record, mark_record, read_bodies, record, whole_record


class Made(unittest.TestCase):
    def test_change(self):
        self.assertEqual(change_record(5, 2, [200, 100]), [5, 250, 1, 5, 2, 200, 100, 52, 255])

    def test_change_without_bytes(self):
        self.assertEqual(change_record(0, 0, []), [3, 252, 1, 0, 0, 1, 255])

    def test_mark_has_low_byte_then_high_byte(self):
        self.assertEqual(mark_record(0), [3, 252, 2, 0, 0, 2, 255])
        self.assertEqual(mark_record(259), [3, 252, 2, 3, 1, 6, 255])

    def test_whole_text(self):
        self.assertEqual(whole_record([]), [1, 254, 3, 3, 255])
        self.assertEqual(whole_record([255, 255]), [3, 252, 3, 255, 255, 1, 255])


class Read(unittest.TestCase):
    def ends_at_once(self, row):
        self.assertEqual(read_bodies(row + mark_record(1)), [])
        self.assertEqual(read_bodies(mark_record(1) + row + mark_record(2)), [[2, 1, 0]])

    def test_one_behind_another(self):
        row = whole_record([9, 8]) + change_record(1, 1, [7]) + mark_record(3)
        self.assertEqual(read_bodies(row), [[3, 9, 8], [1, 1, 1, 7], [2, 3, 0]])

    def test_no_bytes(self):
        self.assertEqual(read_bodies([]), [])

    def test_body_of_1_and_of_255_bytes(self):
        longest = [3] + [7] * 254
        self.assertEqual(read_bodies(record([3]) + record(longest)), [[3], longest])

    def test_a_body_without_bytes_is_not_right(self):
        self.ends_at_once([0, 255, 0, 255])

    def test_first_two_bytes_not_together_255(self):
        self.ends_at_once([1, 253, 3, 3, 255])
        self.ends_at_once([1, 255, 3, 3, 255])

    def test_sum_not_as_told(self):
        self.ends_at_once([1, 254, 3, 4, 255])
        self.ends_at_once([3, 252, 3, 255, 255, 0, 255])

    def test_last_byte_not_255(self):
        self.ends_at_once([1, 254, 3, 3, 254])

    def test_sort_unknown(self):
        self.ends_at_once(record([0]))
        self.ends_at_once(record([4]))
        self.ends_at_once(record([255, 1, 1]))

    def test_change_without_its_two_numbers(self):
        self.ends_at_once(record([1]))
        self.ends_at_once(record([1, 0]))

    def test_mark_without_just_three_bytes(self):
        self.ends_at_once(record([2]))
        self.ends_at_once(record([2, 0]))
        self.ends_at_once(record([2, 0, 0, 0]))

    def test_every_beginning_of_a_record_is_not_right(self):
        whole = change_record(0, 0, [1, 2, 3])
        for amount in range(len(whole)):
            self.assertEqual(read_bodies(mark_record(1) + whole[:amount]), [[2, 1, 0]])

    def test_every_beginning_with_zeros_behind_is_not_right(self):
        for whole in (change_record(0, 0, [0, 0]), mark_record(0), whole_record([])):
            for amount in range(len(whole)):
                row = whole[:amount] + [0] * (len(whole) - amount) + mark_record(1)
                self.assertEqual(read_bodies(row), [])


class BroughtAbout(unittest.TestCase):
    def check(self, bodies, text, kept, kept_mark):
        brought = bring_about(bodies)
        self.assertEqual((brought.text, brought.kept, brought.kept_mark), (text, kept, kept_mark))

    def test_nothing(self):
        self.check([], [], [], 0)

    def test_text_without_mark_is_not_kept(self):
        self.check([[3, 1, 2]], [1, 2], [], 0)

    def test_mark_keeps_the_text_as_it_is(self):
        self.check([[3, 1, 2], [2, 5, 1], [1, 1, 1, 9, 9]], [1, 9, 9], [1, 2], 261)

    def test_later_mark_keeps_instead(self):
        self.check([[2, 9, 0], [3, 1], [2, 4, 0]], [1], [1], 4)

    def test_change_at_the_end_and_beyond_it(self):
        self.check([[3, 1], [1, 1, 0, 2], [2, 1, 0]], [1, 2], [1, 2], 1)
        self.check([[3, 1], [1, 2, 0, 2], [2, 1, 0]], [1], [], 0)
        self.check([[3, 1], [1, 0, 2], [2, 1, 0]], [1], [], 0)

    def test_change_to_200_bytes_and_to_201(self):
        self.check([[1, 0, 0] + [7] * 200, [2, 1, 0]], [7] * 200, [7] * 200, 1)
        self.check([[1, 0, 0] + [7] * 201, [2, 1, 0]], [], [], 0)
        self.check([[3] + [7] * 200, [1, 0, 0, 1], [2, 1, 0]], [7] * 200, [], 0)
        self.check([[3] + [7] * 200, [1, 200, 0, 1], [2, 1, 0]], [7] * 200, [], 0)

    def test_whole_text_of_200_bytes_and_of_201(self):
        self.check([[3] + [7] * 200, [2, 1, 0]], [7] * 200, [7] * 200, 1)
        self.check([[3, 1], [2, 1, 0], [3] + [7] * 201, [2, 2, 0]], [1], [1], 1)
        self.check([[3] + [7] * 254, [2, 2, 0]], [], [], 0)

    def test_whole_text_in_the_place_of_an_earlier_one(self):
        self.check([[3, 1, 2], [3, 4]], [4], [], 0)


if __name__ == "__main__":
    unittest.main()
