"""What the tests share: how calls are written, and a model of the editor that knows no bytes."""

import copy

from powerkept.editor import answers

MARK = [1]
FLUSH = [2]
COPY = [3]
TURN = [4]
START = [6]
SHOWS = [7]
STATE = [11]
HUGE = 4294967295


def change(place, gone, coming):
    return [0, place, gone, len(coming)] + list(coming)


def power(*numbers):
    return [5, len(numbers)] + list(numbers)


def on_disk(file):
    return [8, file]


def spoil(file, place, byte):
    return [9, file, place, byte]


def read(row):
    return [10, len(row)] + list(row)


def was(mark):
    return [12, mark]


def line(calls):
    return [number for call in calls for number in call]


def told(*calls):
    """The answers of these calls, a list for each."""
    given = answers(line(calls))
    split = []
    place = 0
    while place < len(given):
        end = place + 1 + given[place]
        split.append(given[place + 1:end])
        place = end
    return split


def snapshot(editor):
    """All that an editor is, its disk and the writes on their way included."""
    kept = copy.deepcopy(vars(editor))
    disk = vars(kept.pop("disk"))
    disk["writes"] = [vars(write) for write in disk["writes"]]
    return kept, disk


class ModelFile:
    def __init__(self):
        self.number = None
        self.steps = []


class Model:
    """Each write is a step that is whole on the disk or isn't; nothing is encoded or read."""

    def __init__(self):
        self.on = True
        self.copying = False
        self.files = [ModelFile(), ModelFile()]
        self.way = []
        self.marks = {0: []}
        self.begin(0, 1, [], 0)

    def begin(self, used, number, text, mark):
        self.files[used] = ModelFile()
        self.files[used].number = number
        self.files[used].steps = [{"text": text, "mark": mark, "whole": True}]
        self.used, self.number, self.text = used, number, text
        self.last = self.safe = mark
        self.size = 15 + len(text)
        self.copying = False

    def step(self, text, mark, length):
        step = {"text": text, "mark": mark, "whole": False}
        self.files[self.used].steps.append(step)
        self.way.append((length, lambda: step.update(whole=True)))
        self.size += length

    def all_arrive(self):
        for length, arrive in self.way:
            arrive()
        self.way = []

    def change(self, place, gone, coming):
        if not self.on:
            return [-9]
        if self.copying:
            return [-8]
        if place + gone > len(self.text) or any(byte > 255 for byte in coming):
            return [-1]
        if len(self.text) - gone + len(coming) > 200:
            return [-5]
        if self.size + 7 + len(coming) > 600:
            return [-6]
        text = list(self.text)
        text[place:place + gone] = coming
        self.text = text
        self.step(text, None, 7 + len(coming))
        return [len(text), self.size]

    def mark(self):
        if not self.on:
            return [-9]
        if self.copying:
            return [-8]
        if self.last >= 200:
            return [-5]
        if self.size + 7 > 600:
            return [-6]
        self.last += 1
        self.marks[self.last] = self.text
        self.step(self.text, self.last, 7)
        return [self.last, self.size]

    def flush(self):
        if not self.on:
            return [-9]
        amount = len(self.way)
        self.all_arrive()
        self.safe = self.last
        return [amount, self.safe]

    def make_copy(self):
        if not self.on:
            return [-9]
        if self.copying:
            return [-8]
        if self.last >= 200:
            return [-5]
        self.flush()
        other = ModelFile()
        step = {"text": self.text, "mark": self.last + 1, "whole": False}
        other.steps = [step]
        self.files[1 - self.used] = other
        self.way.append((12 + len(self.text), lambda: step.update(whole=True)))
        self.copying = True
        return [15 + len(self.text)]

    def turn(self):
        if not self.on:
            return [-9]
        if not self.copying:
            return [-8]
        self.all_arrive()
        self.used = 1 - self.used
        self.number += 1
        self.last += 1
        self.marks[self.last] = self.text
        self.size = 15 + len(self.text)
        self.copying = False
        used, number = self.files[self.used], self.number
        self.way.append((3, lambda: vars(used).update(number=number)))
        return [self.last, self.size]

    def power(self, numbers):
        if not self.on:
            return [-9]
        amount = len(self.way)
        for (length, arrive), number in zip(self.way, numbers):
            if number >= length:
                arrive()
        self.way = []
        self.on = False
        return [amount]

    def start(self):
        if self.on:
            return [-9]
        counting = [which for which in (0, 1)
                    if self.files[which].number is not None and self.files[which].steps[0]["whole"]]
        if not counting:
            return [-6]
        found = max(counting, key=lambda which: (self.files[which].number, -which))
        text, mark = [], 0
        for step in self.files[found].steps:
            if not step["whole"]:
                break
            if step["mark"] is not None:
                text, mark = step["text"], step["mark"]
        self.begin(1 - found, self.files[found].number + 1, text, mark)
        self.marks = {number: kept for number, kept in self.marks.items() if number <= mark}
        self.on = True
        return [mark, len(text), found]

    def shows(self):
        return [len(self.text)] + self.text if self.on else [-9]

    def state(self):
        return [int(self.on), self.last, self.safe, len(self.way), self.used, self.number, self.size,
                int(self.copying)]

    def was(self, mark):
        return [len(self.marks[mark])] + self.marks[mark] if mark in self.marks else [-2]
