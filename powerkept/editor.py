"""The editor, its calls, and their answers."""

from powerkept.disk import HEAD_SIZE, Disk, file_bodies, file_number, first_records, head, next_number, with_bytes
from powerkept.records import LONGEST_TEXT, bring_about, change_record, changed, goes_beyond, mark_record, read_bodies

LARGEST_SIZE = 600
LAST_MARK = 200
LONGEST_READ = 400

NOT_SUCH = -1
NO_MARK = -2
TOO_MUCH = -5
NO_ROOM = -6
NO_FILE = -6
COPY_WRONG = -8
POWER_WRONG = -9

CALL_CHANGE = 0
CALL_MARK = 1
CALL_FLUSH = 2
CALL_COPY = 3
CALL_TURN = 4
CALL_POWER = 5
CALL_START = 6
CALL_SHOWS = 7
CALL_FILE = 8
CALL_SPOIL = 9
CALL_READ = 10
CALL_STATE = 11
CALL_WAS = 12


class UnknownCall(ValueError):
    """The call's number is none that is answered."""


def above_bytes(numbers):
    """Whether one of these numbers is too great for a byte."""
    return max(numbers, default=0) > 255


def with_count(row):
    return [len(row)] + row


class Editor:
    """A text that is kept on a disk. Each call answers a list: a refusal is one number below 0."""

    def __init__(self):
        self.disk = Disk()
        self.powered = True
        # Whoever watches remembers the text of each mark that was made: neither power nor spoilt bytes change that.
        self.remembered = {0: []}
        self.begin_file(0, 1, [], 0)

    def begin_file(self, file, number, text, mark):
        """The file, with all that's needed to count, is the one in use at once."""
        row = head(number) + first_records(text, mark)
        self.disk.put(file, row)
        self.used = file
        self.number = number
        self.size = len(row)
        self.text = text
        self.last = mark
        self.safe = mark
        self.copying = False

    def other_file(self):
        return 1 - self.used

    def append_record(self, row):
        self.disk.send(self.used, self.size, row)
        self.size = self.size + len(row)

    def flush_all(self):
        self.disk.arrive_all()
        self.safe = self.last

    def make_mark(self):
        self.last = self.last + 1
        self.remembered[self.last] = self.text

    def forget_behind(self, mark):
        """The marks with greater numbers are gone."""
        left = {}
        for number, text in self.remembered.items():
            if number <= mark:
                left[number] = text
        self.remembered = left

    def has_room(self, row):
        return self.size + len(row) <= LARGEST_SIZE

    def refused_making(self):
        """The refusal that change, mark and copy share; 0 if there's none."""
        if not self.powered:
            return POWER_WRONG
        return COPY_WRONG if self.copying else 0

    def change(self, place, gone, coming):
        refusal = self.refused_making()
        if refusal < 0:
            return [refusal]
        if goes_beyond(self.text, place, gone) or above_bytes(coming):
            return [NOT_SUCH]
        text = changed(self.text, place, gone, coming)
        if len(text) > LONGEST_TEXT:
            return [TOO_MUCH]
        row = change_record(place, gone, coming)
        if not self.has_room(row):
            return [NO_ROOM]
        self.text = text
        self.append_record(row)
        return [len(self.text), self.size]

    def mark(self):
        refusal = self.refused_making()
        if refusal < 0:
            return [refusal]
        if self.last >= LAST_MARK:
            return [TOO_MUCH]
        row = mark_record(self.last + 1)
        if not self.has_room(row):
            return [NO_ROOM]
        self.make_mark()
        self.append_record(row)
        return [self.last, self.size]

    def flush(self):
        if not self.powered:
            return [POWER_WRONG]
        amount = len(self.disk.writes)
        self.flush_all()
        return [amount, self.safe]

    def make_copy(self):
        refusal = self.refused_making()
        if refusal < 0:
            return [refusal]
        if self.last >= LAST_MARK:
            return [TOO_MUCH]
        self.flush_all()
        row = first_records(self.text, self.last + 1)
        self.disk.put(self.other_file(), [])
        self.disk.send(self.other_file(), HEAD_SIZE, row)
        self.copying = True
        return [HEAD_SIZE + len(row)]

    def turn(self):
        if not self.powered:
            return [POWER_WRONG]
        if not self.copying:
            return [COPY_WRONG]
        # The head goes last: the old file counts until the whole copy is there.
        self.disk.arrive_all()
        self.used = self.other_file()
        self.number = next_number(self.number)
        self.make_mark()
        self.size = HEAD_SIZE + len(first_records(self.text, self.last))
        self.copying = False
        self.disk.send(self.used, 0, head(self.number))
        return [self.last, self.size]

    def power(self, numbers):
        if not self.powered:
            return [POWER_WRONG]
        amount = len(self.disk.writes)
        self.disk.arrive_some(numbers)
        self.powered = False
        return [amount]

    def start(self):
        if self.powered:
            return [POWER_WRONG]
        found = self.disk.found_file()
        if found is None:
            return [NO_FILE]
        row = self.disk.files[found]
        brought = bring_about(file_bodies(row))
        self.begin_file(1 - found, next_number(file_number(row)), brought.kept, brought.kept_mark)
        self.forget_behind(self.last)
        self.powered = True
        return [self.last, len(self.text), found]

    def shows(self):
        if not self.powered:
            return [POWER_WRONG]
        return with_count(self.text)

    def on_disk(self, file):
        return with_count(self.disk.files[file])

    def spoil(self, file, place, byte):
        if self.powered:
            return [POWER_WRONG]
        row = self.disk.files[file]
        if place >= len(row) or above_bytes([byte]):
            return [NOT_SUCH]
        self.disk.put(file, with_bytes(row, place, [byte]))
        return [row[place]]

    def state(self):
        powered = 1 if self.powered else 0
        copying = 1 if self.copying else 0
        return [powered, self.last, self.safe, len(self.disk.writes), self.used, self.number, self.size, copying]

    def was(self, mark):
        if mark not in self.remembered:
            return [NO_MARK]
        return with_count(self.remembered[mark])


def read_answer(row):
    """How many records are read in these bytes, and what they bring about."""
    if len(row) > LONGEST_READ or above_bytes(row):
        return [NOT_SUCH]
    bodies = read_bodies(row)
    brought = bring_about(bodies)
    return [len(bodies), brought.kept_mark] + with_count(brought.kept) + with_count(brought.text)


def call_end(calls, place):
    """Where the call that begins at the place ends in the list."""
    if calls[place] == CALL_CHANGE:
        return place + 4 + calls[place + 3]
    if calls[place] in (CALL_POWER, CALL_READ):
        return place + 2 + calls[place + 1]
    if calls[place] == CALL_SPOIL:
        return place + 4
    if calls[place] in (CALL_FILE, CALL_WAS):
        return place + 2
    return place + 1


def answer(editor, call):
    if call[0] == CALL_CHANGE:
        return editor.change(call[1], call[2], call[4:])
    if call[0] == CALL_MARK:
        return editor.mark()
    if call[0] == CALL_FLUSH:
        return editor.flush()
    if call[0] == CALL_COPY:
        return editor.make_copy()
    if call[0] == CALL_TURN:
        return editor.turn()
    if call[0] == CALL_POWER:
        return editor.power(call[2:])
    if call[0] == CALL_START:
        return editor.start()
    if call[0] == CALL_SHOWS:
        return editor.shows()
    if call[0] == CALL_FILE:
        return editor.on_disk(call[1])
    if call[0] == CALL_SPOIL:
        return editor.spoil(call[1], call[2], call[3])
    if call[0] == CALL_READ:
        return read_answer(call[2:])
    if call[0] == CALL_STATE:
        return editor.state()
    if call[0] == CALL_WAS:
        return editor.was(call[1])
    raise UnknownCall("no such call")


def answers(calls):
    """The answers of these calls on a new editor, each with how many numbers it has before it."""
    editor = Editor()
    given = []
    place = 0
    while place < len(calls):
        end = call_end(calls, place)
        numbers = answer(editor, calls[place:end])
        given.append(len(numbers))
        given.extend(numbers)
        place = end
    return given
