"""Lines of many calls, with the answers that a model without bytes gives."""

import random
import unittest

from helper import HUGE, Model
from powerkept.editor import Editor, answers

# Some lines are mostly of changes, so that a file gets full; others go through everything.
MOODS = ([0, 0, 0, 0, 0, 1, 1, 1, 2, 3, 4, 4, 5, 6, 7, 11, 11, 12, 12],
         [0] * 30 + [1] * 12 + [2, 3, 4, 5, 7, 11, 12],
         [0] * 20 + [1] * 8 + [7, 11, 12])
WITHOUT_POWER = [6, 6, 6, 0, 1, 2, 3, 4, 5, 7, 11, 12]
PLAIN = {1: "mark", 2: "flush", 3: "make_copy", 4: "turn", 6: "start", 7: "shows", 11: "state"}


def some_change(chance, text):
    length = len(text)
    place = chance.choice([0, length, chance.randint(0, length), chance.randint(0, length), length + 1, HUGE])
    rest = max(0, length - place)
    gone = chance.choice([0, rest, chance.randint(0, rest), chance.randint(0, rest), rest + 1, HUGE])
    most = chance.choice([3, 3, 20, 60, 200, 260])
    coming = [chance.choice([0, 1, 2, 3, 252, 254, 255]) for each in range(chance.randint(0, most))]
    if chance.randint(0, 20) == 0:
        coming.append(chance.choice([256, HUGE]))
    return place, gone, coming[:260]


def some_numbers(chance, way):
    told = [chance.choice([0, length - 1, length, length, length, chance.randint(0, length), HUGE])
            for length, arrive in way]
    told = told[:chance.randint(0, len(told))] if chance.randint(0, 3) == 0 else told
    return told + [chance.choice([0, 3, HUGE]) for each in range(chance.choice([0, 0, 2]))]


def some_line(chance):
    """A line's calls, the answers that the model gives, and the model."""
    model = Model()
    calls, given = [], []
    mood = chance.choice(MOODS)
    for each in range(chance.randint(1, 50)):
        number = chance.choice(mood if model.on else WITHOUT_POWER)
        if number == 0:
            place, gone, coming = some_change(chance, model.text)
            calls += [0, place, gone, len(coming)] + coming
            answer = model.change(place, gone, coming)
        elif number == 5:
            numbers = some_numbers(chance, model.way)
            calls += [5, len(numbers)] + numbers
            answer = model.power(numbers)
        elif number == 12:
            mark = chance.choice([0, model.last, model.last + 1, chance.randint(0, model.last + 3), HUGE])
            calls += [12, mark]
            answer = model.was(mark)
        else:
            calls.append(number)
            answer = getattr(model, PLAIN[number])()
        given += [len(answer)] + answer
    return calls, given, model


def played(calls):
    editor = Editor()
    place = 0
    while place < len(calls):
        number = calls[place]
        if number == 0:
            end = place + 4 + calls[place + 3]
            editor.change(calls[place + 1], calls[place + 2], calls[place + 4:end])
        elif number == 5:
            end = place + 2 + calls[place + 1]
            editor.power(calls[place + 2:end])
        elif number == 12:
            end = place + 2
            editor.was(calls[place + 1])
        else:
            end = place + 1
            getattr(editor, PLAIN[number])()
        place = end
    return editor


class ManyLines(unittest.TestCase):
    def test_answers_of_the_model(self):
        chance = random.Random(20)
        for each in range(3000):
            calls, given, model = some_line(chance)
            before = list(calls)
            self.assertEqual(answers(calls), given, calls)
            self.assertEqual(calls, before)

    def test_editor_is_as_the_model(self):
        chance = random.Random(21)
        for each in range(1500):
            calls, given, model = some_line(chance)
            editor = played(calls)
            self.assertEqual(editor.text, model.text, calls)
            self.assertEqual((editor.last, editor.safe, editor.used, editor.number, editor.size, editor.copying),
                             (model.last, model.safe, model.used, model.number, model.size, model.copying), calls)
            self.assertEqual([len(write.coming) for write in editor.disk.writes],
                             [length for length, arrive in model.way])
            self.assertEqual(editor.remembered, model.marks, calls)

    def test_lines_reach_every_refusal(self):
        chance = random.Random(20)
        seen = set()
        for each in range(1000):
            calls, given, model = some_line(chance)
            seen.update(number for number in given if number < 0)
        self.assertEqual(seen, {-1, -2, -5, -6, -8, -9})

    def test_found_is_the_text_of_the_safe_mark_or_of_a_later_one(self):
        chance = random.Random(22)
        for each in range(1500):
            calls, given, model = some_line(chance)
            editor = played(calls)
            if editor.powered:
                editor.power(some_numbers(chance, model.way))
            safe, remembered = editor.safe, dict(editor.remembered)
            mark, length, found = editor.start()
            self.assertGreaterEqual(mark, safe, calls)
            self.assertEqual(editor.shows(), [length] + remembered[mark], calls)
            self.assertEqual(editor.was(mark), editor.shows())


if __name__ == "__main__":
    unittest.main()
