"""shows, file, state and was: what they answer with power and without, and that asking changes nothing."""

import unittest

from helper import (COPY, FLUSH, HUGE, MARK, SHOWS, START, STATE, TURN, change, on_disk, power, read, snapshot, spoil,
                    told, was)
from powerkept.editor import Editor, answers

FIRST = [1, 0, 255, 1, 254, 3, 3, 255, 3, 252, 2, 0, 0, 2, 255]
FULL = [number % 256 for number in range(100, 300)]


def last_told(*calls):
    return told(*calls)[-1]


class Shows(unittest.TestCase):
    def test_at_the_beginning(self):
        self.assertEqual(told(SHOWS), [[0]])

    def test_text(self):
        given = told(change(0, 0, [1, 2, 3]), SHOWS, change(1, 1, [0, 255]), SHOWS, change(0, 4, []), SHOWS)
        self.assertEqual(given[1::2], [[3, 1, 2, 3], [4, 1, 0, 255, 3], [0]])

    def test_200_bytes(self):
        self.assertEqual(last_told(change(0, 0, FULL), SHOWS), [200] + FULL)

    def test_without_power(self):
        self.assertEqual(last_told(change(0, 0, [1]), power(), SHOWS), [-9])

    def test_text_kept_behind_start(self):
        given = told(change(0, 0, [1, 2]), MARK, change(0, 0, [3]), power(9, 7, 8), START, SHOWS)
        self.assertEqual(given[-2:], [[1, 2, 0], [2, 1, 2]])

    def test_while_a_copy_is_made_and_behind_turn(self):
        given = told(change(0, 0, [7]), COPY, SHOWS, TURN, SHOWS)
        self.assertEqual(given[2::2], [[1, 7], [1, 7]])


class File(unittest.TestCase):
    def test_at_the_beginning(self):
        self.assertEqual(told(on_disk(0), on_disk(1)), [[15] + FIRST, [0]])

    def test_without_what_is_on_its_way(self):
        record = [5, 250, 1, 0, 0, 200, 100, 45, 255]
        given = told(change(0, 0, [200, 100]), on_disk(0), FLUSH, on_disk(0), on_disk(1))
        self.assertEqual(given[1::2], [[15] + FIRST, [24] + FIRST + record])
        self.assertEqual(given[-1], [0])

    def test_copy_and_turn(self):
        behind = [2, 253, 3, 9, 12, 255, 3, 252, 2, 2, 0, 4, 255]
        given = told(change(0, 0, [9]), MARK, COPY, on_disk(1), on_disk(0), TURN, on_disk(1), FLUSH, on_disk(1))
        self.assertEqual(given[3], [0])
        self.assertEqual(given[4], [30] + FIRST + [4, 251, 1, 0, 0, 9, 10, 255] + [3, 252, 2, 1, 0, 3, 255])
        self.assertEqual(given[6], [16, 0, 0, 0] + behind)
        self.assertEqual(given[8], [16, 2, 0, 255] + behind)

    def test_copy_empties_the_other_file_at_once(self):
        self.assertEqual(told(COPY, TURN, FLUSH, on_disk(0), COPY, on_disk(0))[3::2], [[15] + FIRST, [0]])

    def test_without_power(self):
        given = told(MARK, MARK, power(3, 2), on_disk(0), on_disk(1))
        self.assertEqual(given[-2:], [[24] + FIRST + [3, 252, 2, 0, 0, 0, 0, 3, 252], [0]])

    def test_of_a_later_write_all_and_nothing_ahead(self):
        given = told(change(0, 0, [1]), MARK, power(0, 7), on_disk(0))
        self.assertEqual(given[-1], [30] + FIRST + [0] * 8 + [3, 252, 2, 1, 0, 3, 255])

    def test_a_write_of_which_nothing_arrives_leaves_the_file_as_it_was(self):
        self.assertEqual(last_told(change(0, 0, [1]), MARK, power(), on_disk(0)), [15] + FIRST)
        self.assertEqual(last_told(COPY, power(0), on_disk(1)), [0])
        self.assertEqual(last_told(COPY, power(1), on_disk(1)), [4, 0, 0, 0, 1])

    def test_behind_start(self):
        given = told(change(0, 0, [9]), MARK, power(8, 7), START, on_disk(0), on_disk(1))
        self.assertEqual(given[-2][0], 30)
        self.assertEqual(given[-1], [16, 2, 0, 255, 2, 253, 3, 9, 12, 255, 3, 252, 2, 1, 0, 3, 255])

    def test_start_empties_a_longer_file(self):
        given = told(change(0, 0, FULL), COPY, TURN, change(0, 200, []), MARK, power(3, 7, 7), START, on_disk(0))
        self.assertEqual(given[-2:], [[2, 0, 1], [15, 3, 0, 255, 1, 254, 3, 3, 255, 3, 252, 2, 2, 0, 4, 255]])

    def test_600_bytes(self):
        calls = [change(0, 0, FULL), change(0, 200, FULL), change(0, 164, FULL[:164]), FLUSH, on_disk(0)]
        given = last_told(*calls)
        self.assertEqual((given[0], len(given)), (600, 601))


class State(unittest.TestCase):
    def check(self, *rows):
        """Each row: a call, and the state behind it."""
        calls = []
        for call, state in rows:
            calls += [call, STATE]
        self.assertEqual(told(*calls)[1::2], [state for call, state in rows])

    def test_at_the_beginning(self):
        self.assertEqual(told(STATE), [[1, 0, 0, 0, 0, 1, 15, 0]])

    def test_behind_every_call(self):
        self.check(
            (change(0, 0, [1, 2]), [1, 0, 0, 1, 0, 1, 24, 0]),
            (MARK, [1, 1, 0, 2, 0, 1, 31, 0]),
            (FLUSH, [1, 1, 1, 0, 0, 1, 31, 0]),
            (change(0, 1, []), [1, 1, 1, 1, 0, 1, 38, 0]),
            (MARK, [1, 2, 1, 2, 0, 1, 45, 0]),
            (COPY, [1, 2, 2, 1, 0, 1, 45, 1]),
            (TURN, [1, 3, 2, 1, 1, 2, 16, 0]),
            (MARK, [1, 4, 2, 2, 1, 2, 23, 0]),
            (SHOWS, [1, 4, 2, 2, 1, 2, 23, 0]),
            (on_disk(0), [1, 4, 2, 2, 1, 2, 23, 0]),
            (on_disk(1), [1, 4, 2, 2, 1, 2, 23, 0]),
            (read(FIRST[3:]), [1, 4, 2, 2, 1, 2, 23, 0]),
            (STATE, [1, 4, 2, 2, 1, 2, 23, 0]),
            (was(3), [1, 4, 2, 2, 1, 2, 23, 0]),
            (power(3), [0, 4, 2, 0, 1, 2, 23, 0]),
            (spoil(0, 0, 7), [0, 4, 2, 0, 1, 2, 23, 0]),
            (START, [1, 2, 2, 0, 1, 8, 16, 0]))

    def test_behind_power_only_the_power_and_the_writes_are_others(self):
        self.check((change(0, 0, [1]), [1, 0, 0, 1, 0, 1, 23, 0]), (MARK, [1, 1, 0, 2, 0, 1, 30, 0]),
                   (power(), [0, 1, 0, 0, 0, 1, 30, 0]), (on_disk(0), [0, 1, 0, 0, 0, 1, 30, 0]),
                   (START, [1, 0, 0, 0, 1, 2, 15, 0]))

    def test_flush_in_the_midst_of_a_copy(self):
        self.check((MARK, [1, 1, 0, 1, 0, 1, 22, 0]), (COPY, [1, 1, 1, 1, 0, 1, 22, 1]),
                   (FLUSH, [1, 1, 1, 0, 0, 1, 22, 1]), (TURN, [1, 2, 1, 1, 1, 2, 15, 0]),
                   (FLUSH, [1, 2, 2, 0, 1, 2, 15, 0]))

    def test_power_in_the_midst_of_a_copy(self):
        for numbers in ([], [5], [HUGE]):
            self.check((MARK, [1, 1, 0, 1, 0, 1, 22, 0]), (COPY, [1, 1, 1, 1, 0, 1, 22, 1]),
                       (power(*numbers), [0, 1, 1, 0, 0, 1, 22, 1]), (START, [1, 1, 1, 0, 1, 2, 15, 0]))

    def test_a_refused_start_ends_no_copy(self):
        self.check((COPY, [1, 0, 0, 1, 0, 1, 15, 1]), (power(), [0, 0, 0, 0, 0, 1, 15, 1]),
                   (spoil(0, 2, 254), [0, 0, 0, 0, 0, 1, 15, 1]), (START, [0, 0, 0, 0, 0, 1, 15, 1]),
                   (spoil(0, 2, 255), [0, 0, 0, 0, 0, 1, 15, 1]), (START, [1, 0, 0, 0, 1, 2, 15, 0]))

    def test_power_behind_turn(self):
        self.check((COPY, [1, 0, 0, 1, 0, 1, 15, 1]), (TURN, [1, 1, 0, 1, 1, 2, 15, 0]),
                   (power(2), [0, 1, 0, 0, 1, 2, 15, 0]), (START, [1, 0, 0, 0, 1, 2, 15, 0]))
        self.check((COPY, [1, 0, 0, 1, 0, 1, 15, 1]), (TURN, [1, 1, 0, 1, 1, 2, 15, 0]),
                   (power(3), [0, 1, 0, 0, 1, 2, 15, 0]), (START, [1, 1, 1, 0, 0, 3, 15, 0]))

    def test_behind_every_refusal(self):
        full = [(change(0, 0, FULL), [1, 0, 0, 1, 0, 1, 222, 0]), (change(0, 200, FULL), [1, 0, 0, 2, 0, 1, 429, 0]),
                (change(0, 164, FULL[:164]), [1, 0, 0, 3, 0, 1, 600, 0])]
        same = [1, 0, 0, 3, 0, 1, 600, 0]
        refused = [change(201, 0, []), change(0, 0, [1]), change(0, 0, []), MARK, TURN, START, spoil(0, 0, 0),
                   read([256]), read([0] * 401), was(1)]
        self.check(*full, *[(call, same) for call in refused])
        copying, off = [1, 0, 0, 1, 0, 1, 15, 1], [0, 0, 0, 0, 0, 1, 15, 1]
        self.check((COPY, copying), *[(call, copying) for call in (change(0, 0, []), MARK, COPY, START)],
                   (power(), off), *[(call, off) for call in (
                       change(0, 0, []), MARK, FLUSH, COPY, TURN, power(9), SHOWS, spoil(1, 0, 0), spoil(0, 0, 256))])


class Was(unittest.TestCase):
    def test_mark_0(self):
        self.assertEqual(told(was(0)), [[0]])
        given = told(change(0, 0, [1]), was(0), MARK, FLUSH, was(0), power(), was(0), START, was(0))
        self.assertEqual([given[place] for place in (1, 4, 6, 8)], [[0]] * 4)

    def test_no_such_mark(self):
        self.assertEqual(told(was(1), MARK, was(1), was(2), was(HUGE), was(65536))[2:], [[0], [-2], [-2], [-2]])
        self.assertEqual(last_told(was(1)), [-2])

    def test_marks_made(self):
        given = told(change(0, 0, [1, 2]), MARK, change(0, 1, []), MARK, change(1, 0, [0, 255]), MARK, MARK,
                     change(0, 3, []), was(1), was(2), was(3), was(4), was(5))
        self.assertEqual(given[-5:], [[2, 1, 2], [1, 2], [3, 2, 0, 255], [3, 2, 0, 255], [-2]])

    def test_text_of_200_bytes(self):
        self.assertEqual(last_told(change(0, 0, FULL), MARK, change(0, 200, []), was(1)), [200] + FULL)

    def test_copy_makes_no_mark_and_turn_does(self):
        given = told(change(0, 0, [5]), COPY, was(1), TURN, was(1), change(0, 1, []), was(1))
        self.assertEqual(given[2::2], [[-2], [1, 5], [1, 5]])

    def test_refused_marks_are_not_made(self):
        self.assertEqual(told(COPY, MARK, was(1), power(), MARK, was(1))[2::3], [[-2], [-2]])

    def test_remembered_without_power_till_start(self):
        given = told(change(0, 0, [1]), MARK, MARK, power(), was(1), was(2), START, was(0), was(1), was(2))
        self.assertEqual(given[4:], [[1, 1], [1, 1], [0, 0, 0], [0], [-2], [-2]])

    def test_marks_found_and_earlier_ones_stay(self):
        given = told(change(0, 0, [1]), MARK, change(0, 0, [2]), MARK, MARK, power(8, 7, 8, 7, 6), START,
                     was(1), was(2), was(3))
        self.assertEqual(given[-4:], [[2, 2, 0], [1, 1], [2, 2, 1], [-2]])

    def test_made_anew(self):
        given = told(change(0, 0, [1]), MARK, power(), START, was(1), change(0, 0, [2, 3]), MARK, was(1), FLUSH,
                     power(), START, was(1))
        self.assertEqual([given[place] for place in (4, 7, 11)], [[-2], [2, 2, 3], [2, 2, 3]])

    def test_turn_gone_with_its_head(self):
        given = told(change(0, 0, [1]), COPY, TURN, MARK, power(2, 7), was(1), was(2), START, was(1), was(2))
        self.assertEqual(given[-5:], [[1, 1], [1, 1], [0, 0, 0], [-2], [-2]])

    def test_turn_kept_with_its_head(self):
        given = told(change(0, 0, [1]), COPY, TURN, MARK, power(3, 6), START, was(1), was(2))
        self.assertEqual(given[-3:], [[1, 1, 1], [1, 1], [-2]])

    def test_copy_ended_by_power_makes_no_mark(self):
        given = told(change(0, 0, [1]), COPY, power(HUGE), was(1), START, was(1))
        self.assertEqual(given[3::2], [[-2], [-2]])

    def test_a_refused_start_forgets_nothing(self):
        given = told(change(0, 0, [1]), MARK, power(), spoil(0, 2, 0), START, was(1), spoil(0, 2, 255), START, was(1))
        self.assertEqual(given[-5:], [[-6], [1, 1], [0], [0, 0, 0], [-2]])
        self.assertEqual(last_told(MARK, MARK, START, was(2)), [0])


class Asking(unittest.TestCase):
    CALLS = (("shows", ()), ("on_disk", (0,)), ("on_disk", (1,)), ("state", ()), ("was", (0,)), ("was", (1,)),
             ("was", (9,)), ("spoil", (0, HUGE, 0)), ("spoil", (0, 0, 256)))

    def check_as_it_was(self, editor):
        for name, arguments in self.CALLS:
            before = snapshot(editor)
            getattr(editor, name)(*arguments).append(77)
            self.assertEqual(snapshot(editor), before, name)

    def test_nothing_is_changed(self):
        editor = Editor()
        self.check_as_it_was(editor)
        editor.change(0, 0, [1, 2])
        editor.mark()
        self.check_as_it_was(editor)
        editor.make_copy()
        self.check_as_it_was(editor)
        editor.power([9])
        self.check_as_it_was(editor)
        editor.start()
        self.check_as_it_was(editor)

    def test_a_line_answers_as_without_them(self):
        plain = [change(0, 0, [1, 2]), MARK, COPY, TURN, change(2, 0, [3]), MARK, power(3, 8), START, FLUSH]
        asked = [SHOWS, on_disk(0), on_disk(1), read([1, 254, 3, 3, 255]), STATE, was(1), was(HUGE)]
        for call in asked:
            mixed = [each for pair in zip(plain, [call] * len(plain)) for each in pair]
            self.assertEqual(told(*mixed)[::2], told(*plain))

    def test_answered_are_int_alone(self):
        calls = change(0, 0, [1]) + MARK + COPY + STATE + power() + STATE + on_disk(0) + was(1) + spoil(0, 0, 2) + START
        self.assertEqual({type(number) for number in answers(calls)}, {int})


if __name__ == "__main__":
    unittest.main()
