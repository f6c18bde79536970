"""Whole lines of all thirteen calls, with the answers of a second editor that is written in bytearrays."""

import random
import unittest

from helper import HUGE, line
from powerkept.editor import answers

CHANGE, MARK, FLUSH, COPY, TURN, POWER, START, SHOWS, FILE, SPOIL, READ, STATE, WAS = range(13)


def framed(*body):
    return bytes([len(body), 255 - len(body), *body, sum(body) % 256, 255])


def first_two(text, mark):
    return framed(3, *text) + framed(2, *mark.to_bytes(2, "little"))


def bodies_in(row):
    found = []
    row = bytes(row)
    while len(row) >= 5 and row[0] and row[0] ^ row[1] == 255:
        body, behind = row[2:2 + row[0]], row[2 + row[0]:4 + row[0]]
        if len(behind) < 2 or behind != bytes([sum(body) % 256, 255]):
            break
        if body[0] not in (1, 2, 3) or body[0] == 1 and len(body) < 3 or body[0] == 2 and len(body) != 3:
            break
        found.append(body)
        row = row[4 + row[0]:]
    return found


def brought(bodies):
    """The mark, what it keeps, the text at last."""
    mark, kept, text = 0, b"", b""
    for body in bodies:
        if body[0] == 2:
            mark, kept = int.from_bytes(body[1:], "little"), text
            continue
        if body[0] == 1 and body[1] + body[2] > len(text):
            break
        coming = body[1:] if body[0] == 3 else text[:body[1]] + body[3:] + text[body[1] + body[2]:]
        if len(coming) > 200:
            break
        text = coming
    return mark, kept, text


def number_of(row):
    """The number of a file that counts, -1 of one that doesn't."""
    bodies = bodies_in(row[3:])
    if len(row) < 3 or row[2] != 255 or [body[0] for body in bodies[:2]] != [3, 2] or len(bodies[0]) > 201:
        return -1
    return int.from_bytes(row[:2], "little")


class Second:
    def __init__(self):
        self.files = [bytearray(), bytearray()]
        self.way = []
        self.marks = {0: b""}
        self.begin(0, 1, b"", 0)

    def begin(self, used, number, text, mark):
        self.files[used] = bytearray(number.to_bytes(2, "little") + b"\xff" + first_two(text, mark))
        self.used, self.number, self.size = used, number, len(self.files[used])
        self.text, self.last, self.safe = text, mark, mark
        self.on, self.copying = 1, 0

    def arrive(self, numbers):
        for (file, place, coming), number in zip(self.way, numbers):
            if min(number, len(coming)) > 0:
                row = self.files[file]
                row.extend(bytes(max(0, place - len(row))))
                row[place:place + min(number, len(coming))] = coming[:number]
        self.way = []

    def appended(self, row):
        self.way.append((self.used, self.size, row))
        self.size += len(row)

    def ask(self, sort, *values):
        needs_power = sort not in (START, SPOIL, FILE, READ, STATE, WAS)
        if needs_power and not self.on or sort in (START, SPOIL) and self.on:
            return [-9]
        if sort in (CHANGE, MARK, COPY) and self.copying or sort == TURN and not self.copying:
            return [-8]
        if sort in (MARK, COPY) and self.last >= 200:
            return [-5]
        return getattr(self, "ask_%d" % sort)(*values)

    def ask_0(self, place, gone, coming):
        if place + gone > len(self.text) or any(byte > 255 for byte in coming):
            return [-1]
        if len(self.text) - gone + len(coming) > 200:
            return [-5]
        if self.size + 7 + len(coming) > 600:
            return [-6]
        self.text = self.text[:place] + bytes(coming) + self.text[place + gone:]
        self.appended(framed(1, place, gone, *coming))
        return [len(self.text), self.size]

    def ask_1(self):
        if self.size + 7 > 600:
            return [-6]
        self.last += 1
        self.marks[self.last] = self.text
        self.appended(framed(2, *self.last.to_bytes(2, "little")))
        return [self.last, self.size]

    def ask_2(self):
        amount = len(self.way)
        self.arrive([HUGE] * amount)
        self.safe = self.last
        return [amount, self.safe]

    def ask_3(self):
        self.ask_2()
        self.files[1 - self.used] = bytearray()
        row = first_two(self.text, self.last + 1)
        self.way.append((1 - self.used, 3, row))
        self.copying = 1
        return [3 + len(row)]

    def ask_4(self):
        self.arrive([HUGE] * len(self.way))
        self.used, self.number, self.copying = 1 - self.used, (self.number + 1) % 65536, 0
        self.way = [(self.used, 0, self.number.to_bytes(2, "little") + b"\xff")]
        self.last += 1
        self.marks[self.last] = self.text
        self.size = len(self.files[self.used])
        return [self.last, self.size]

    def ask_5(self, numbers):
        amount = len(self.way)
        self.arrive(numbers)
        self.on = 0
        return [amount]

    def ask_6(self):
        numbers = [number_of(row) for row in self.files]
        if max(numbers) < 0:
            return [-6]
        found = numbers.index(max(numbers))
        mark, kept, text = brought(bodies_in(self.files[found][3:]))
        self.begin(1 - found, (numbers[found] + 1) % 65536, kept, mark)
        for gone in [number for number in self.marks if number > mark]:
            self.marks.pop(gone)
        return [mark, len(kept), found]

    def ask_7(self):
        return [len(self.text), *self.text]

    def ask_8(self, file):
        return [len(self.files[file]), *self.files[file]]

    def ask_9(self, file, place, byte):
        if place >= len(self.files[file]) or byte > 255:
            return [-1]
        before = self.files[file][place]
        self.files[file][place] = byte
        return [before]

    def ask_10(self, row):
        if len(row) > 400 or any(byte > 255 for byte in row):
            return [-1]
        bodies = bodies_in(row)
        mark, kept, text = brought(bodies)
        return [len(bodies), mark, len(kept), *kept, len(text), *text]

    def ask_11(self):
        return [self.on, self.last, self.safe, len(self.way), self.used, self.number, self.size, self.copying]

    def ask_12(self, mark):
        return [len(self.marks[mark]), *self.marks[mark]] if mark in self.marks else [-2]


def written(sort, *values):
    """The call as it is handed in: a list has before it how many numbers it has."""
    call = [sort]
    for value in values:
        call += [len(value), *value] if isinstance(value, list) else [value]
    return call


BYTES = [0, 1, 2, 3, 4, 251, 252, 253, 254, 255]
WITH_POWER = [CHANGE] * 6 + [MARK] * 5 + [FLUSH] * 3 + [COPY] * 2 + [TURN] * 3 + [POWER] * 3 + [
    START, SHOWS, SHOWS, FILE, SPOIL, READ, STATE, STATE, WAS, WAS]
# So that a file gets full.
FILLING = [CHANGE] * 20 + [MARK] * 8 + [FLUSH, SHOWS, FILE, READ, STATE, WAS]
WITHOUT_POWER = [START] * 5 + [SPOIL] * 7 + [
    CHANGE, MARK, FLUSH, COPY, TURN, POWER, SHOWS, FILE, READ, STATE, STATE, WAS, WAS]


class Chance:
    def __init__(self, seed):
        self.random = random.Random(seed)

    def one(self, *choices):
        return self.random.choice(choices)

    def upto(self, most):
        return self.random.randint(0, max(0, most))

    def some_bytes(self, most):
        row = [self.random.choice(BYTES) for each in range(self.upto(most))]
        if self.upto(30) == 0:
            row = row[:most - 1] + [self.one(256, HUGE)]
        return row

    def change(self, second):
        length = len(second.text)
        place = self.one(0, length, self.upto(length), self.upto(length), self.upto(length), length + 1, HUGE)
        rest = max(0, length - place)
        gone = self.one(0, 0, rest, self.upto(rest), self.upto(rest), rest + 1, HUGE)
        return [place, gone, self.some_bytes(self.one(2, 2, 9, 40, 200, 260))]

    def power(self, second):
        lengths = [len(coming) for file, place, coming in second.way]
        numbers = [self.one(0, length - 1, length, length, length, self.upto(length), HUGE) for length in lengths]
        return [self.one(numbers, numbers, numbers[:self.upto(len(numbers))], numbers + [1, HUGE])]

    def read(self, second):
        row = []
        for each in range(self.upto(5)):
            row += self.one(
                framed(3, *self.some_byte_row(4)), framed(2, self.one(*BYTES), self.one(0, 1)),
                framed(1, self.upto(2), self.upto(2), *self.some_byte_row(4)), framed(3, *[7] * self.one(199, 200, 201)),
                framed(*self.some_byte_row(3), self.upto(5)))
        if row and self.upto(2) == 0:
            row[self.upto(len(row) - 1)] = self.one(*BYTES)
        if self.upto(5) == 0:
            row = row[:self.upto(len(row))]
        if self.upto(9) == 0:
            row += [self.one(*BYTES)] * (self.one(400, 401) - len(row))
        if self.upto(30) == 0:
            row = row[:200] + [self.one(256, HUGE)]
        return [row[:410]]

    def some_byte_row(self, most):
        return [self.one(*BYTES) for each in range(self.upto(most))]

    def spoil(self, second):
        file = self.upto(1)
        length = len(second.files[file])
        place = self.one(0, 1, 2, self.upto(14), self.upto(length), self.upto(length), length, HUGE)
        return [file, place, self.one(*BYTES, self.upto(255), 256, HUGE)]

    def values(self, sort, second):
        if sort in (CHANGE, POWER, READ, SPOIL):
            return {CHANGE: self.change, POWER: self.power, READ: self.read, SPOIL: self.spoil}[sort](second)
        if sort == FILE:
            return [self.upto(1)]
        if sort == WAS:
            return [self.one(0, second.last, second.last, second.last + 1, self.upto(second.last), HUGE)]
        return []

    def spoilt_mark(self, second):
        """Calls that give a mark another number, and mend its sum and perhaps its file's number too."""
        file = second.used
        row = second.files[file]
        places = [place for place in range(len(row) - 6) if row[place:place + 3] == bytes([3, 252, 2])]
        if not places:
            return []
        place = self.one(*places)
        low, high = self.one(0, 1, 2, 3, 9, 198, 199, 200, 255), self.one(0, 0, 0, 1, 255)
        calls = [(file, place + 3, low), (file, place + 4, high), (file, place + 5, (2 + low + high) % 256)]
        if self.upto(1):
            calls += [(file, 0, self.one(0, 1, 2, 254, 255)), (file, 1, self.one(0, 1, 255)), (file, 2, 255)]
        return calls


def some_line(seed):
    """A line's calls, and what the second editor answers to each."""
    chance = Chance(seed)
    second = Second()
    asked, told = [], []
    most = chance.one(50, 50, 1 + chance.upto(49))
    mood = chance.one(WITH_POWER, WITH_POWER, WITH_POWER, FILLING)

    def ask(sort, *values):
        asked.append(written(sort, *values))
        told.append(second.ask(sort, *values))

    while len(asked) < most:
        sort = chance.one(*(mood if second.on else WITHOUT_POWER))
        if sort == SPOIL and not second.on and chance.upto(2) == 0:
            for values in chance.spoilt_mark(second)[:most - len(asked)]:
                ask(SPOIL, *values)
        else:
            ask(sort, *chance.values(sort, second))
    return asked, told


class WholeLines(unittest.TestCase):
    LINES = [some_line(seed) for seed in range(3000)]

    def test_answers_of_the_second_editor(self):
        for asked, told in self.LINES:
            expected = [number for row in told for number in [len(row)] + row]
            self.assertEqual(answers(line(asked)), expected, asked)

    def test_what_is_handed_in_stays_and_asked_twice_it_answers_alike(self):
        for asked, told in self.LINES[:500]:
            calls = line(asked)
            first = answers(calls)
            self.assertEqual(calls, line(asked))
            first_again = list(first)
            second = answers(calls)
            self.assertEqual(second, first)
            second.clear()
            self.assertEqual(first, first_again)
            self.assertEqual({type(number) for number in first}, {int})

    def test_a_beginning_of_a_line_answers_a_beginning(self):
        for asked, told in self.LINES[:200]:
            whole = answers(line(asked))
            for amount in (1, len(asked) // 2, len(asked) - 1):
                given = answers(line(asked[:amount]))
                self.assertEqual(given, whole[:len(given)])

    def test_fifty_calls_at_most_and_of_every_sort(self):
        self.assertEqual({call[0] for asked, told in self.LINES for call in asked}, set(range(13)))
        self.assertEqual(max(len(asked) for asked, told in self.LINES), 50)

    def test_every_refusal_of_every_call_is_reached(self):
        reached = {(call[0], row[0]) for asked, told in self.LINES for call, row in zip(asked, told) if row[0] < 0}
        self.assertEqual(reached, {
            (CHANGE, -9), (CHANGE, -8), (CHANGE, -1), (CHANGE, -5), (CHANGE, -6),
            (MARK, -9), (MARK, -8), (MARK, -5), (MARK, -6), (FLUSH, -9), (COPY, -9), (COPY, -8), (COPY, -5),
            (TURN, -9), (TURN, -8), (POWER, -9), (START, -9), (START, -6), (SHOWS, -9), (SPOIL, -9), (SPOIL, -1),
            (READ, -1), (WAS, -2)})

    def test_longest_line(self):
        calls = line([written(READ, [0] * 410)] * 50)
        self.assertEqual(answers(calls), [1, -1] * 50)
        calls = line([written(READ, list(framed(3, *[7] * 200) + framed(2, 1, 0)))] * 50)
        self.assertEqual(answers(calls), ([404, 2, 1] + ([200] + [7] * 200) * 2) * 50)


if __name__ == "__main__":
    unittest.main()
