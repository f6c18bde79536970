"""The editor, its calls, and their answers."""

from powerkept.disk import HEAD_SIZE, Disk, file_bodies, file_number, first_records, head, next_number
from powerkept.records import LONGEST_TEXT, bring_about, change_record, changed, goes_beyond, mark_record

LARGEST_SIZE = 600
LAST_MARK = 200

NOT_SUCH = -1
TOO_MUCH = -5
NO_ROOM = -6
NO_FILE = -6
COPY_WRONG = -8
POWER_WRONG = -9

CALL_CHANGE = 0
CALL_MARK = 1
CALL_FLUSH = 2
CALL_COPY = 3
CALL_TURN = 4
CALL_POWER = 5
CALL_START = 6


class UnknownCall(ValueError):
    """The call's number is none that is answered."""


class Editor:
    """A text that is kept on a disk. Each call answers a list: a refusal is one number below 0."""

    def __init__(self):
        self.disk = Disk()
        self.powered = True
        self.begin_file(0, 1, [], 0)

    def begin_file(self, file, number, text, mark):
        """The file, with all that's needed to count, is the one in use at once."""
        row = head(number) + first_records(text, mark)
        self.disk.put(file, row)
        self.used = file
        self.number = number
        self.size = len(row)
        self.text = text
        self.last = mark
        self.safe = mark
        self.copying = False

    def other_file(self):
        return 1 - self.used

    def append_record(self, row):
        self.disk.send(self.used, self.size, row)
        self.size = self.size + len(row)

    def flush_all(self):
        self.disk.arrive_all()
        self.safe = self.last

    def has_room(self, row):
        return self.size + len(row) <= LARGEST_SIZE

    def refused_making(self):
        """The refusal that change, mark and copy share; 0 if there's none."""
        if not self.powered:
            return POWER_WRONG
        return COPY_WRONG if self.copying else 0

    def change(self, place, gone, coming):
        refusal = self.refused_making()
        if refusal < 0:
            return [refusal]
        if goes_beyond(self.text, place, gone) or max(coming, default=0) > 255:
            return [NOT_SUCH]
        text = changed(self.text, place, gone, coming)
        if len(text) > LONGEST_TEXT:
            return [TOO_MUCH]
        row = change_record(place, gone, coming)
        if not self.has_room(row):
            return [NO_ROOM]
        self.text = text
        self.append_record(row)
        return [len(self.text), self.size]

    def mark(self):
        refusal = self.refused_making()
        if refusal < 0:
            return [refusal]
        if self.last >= LAST_MARK:
            return [TOO_MUCH]
        row = mark_record(self.last + 1)
        if not self.has_room(row):
            return [NO_ROOM]
        self.last = self.last + 1
        self.append_record(row)
        return [self.last, self.size]

    def flush(self):
        if not self.powered:
            return [POWER_WRONG]
        amount = len(self.disk.writes)
        self.flush_all()
        return [amount, self.safe]

    def make_copy(self):
        refusal = self.refused_making()
        if refusal < 0:
            return [refusal]
        if self.last >= LAST_MARK:
            return [TOO_MUCH]
        self.flush_all()
        row = first_records(self.text, self.last + 1)
        self.disk.put(self.other_file(), [])
        self.disk.send(self.other_file(), HEAD_SIZE, row)
        self.copying = True
        return [HEAD_SIZE + len(row)]

    def turn(self):
        if not self.powered:
            return [POWER_WRONG]
        if not self.copying:
            return [COPY_WRONG]
        # The head goes last: the old file counts until the whole copy is there.
        self.disk.arrive_all()
        self.used = self.other_file()
        self.number = next_number(self.number)
        self.last = self.last + 1
        self.size = HEAD_SIZE + len(first_records(self.text, self.last))
        self.copying = False
        self.disk.send(self.used, 0, head(self.number))
        return [self.last, self.size]

    def power(self, numbers):
        if not self.powered:
            return [POWER_WRONG]
        amount = len(self.disk.writes)
        self.disk.arrive_some(numbers)
        self.powered = False
        return [amount]

    def start(self):
        if self.powered:
            return [POWER_WRONG]
        found = self.disk.found_file()
        if found is None:
            return [NO_FILE]
        row = self.disk.files[found]
        brought = bring_about(file_bodies(row))
        self.begin_file(1 - found, next_number(file_number(row)), brought.kept, brought.kept_mark)
        self.powered = True
        return [self.last, len(self.text), found]


def call_end(calls, place):
    """Where the call that begins at the place ends in the list."""
    if calls[place] == CALL_CHANGE:
        return place + 4 + calls[place + 3]
    if calls[place] == CALL_POWER:
        return place + 2 + calls[place + 1]
    return place + 1


def answer(editor, call):
    if call[0] == CALL_CHANGE:
        return editor.change(call[1], call[2], call[4:])
    if call[0] == CALL_MARK:
        return editor.mark()
    if call[0] == CALL_FLUSH:
        return editor.flush()
    if call[0] == CALL_COPY:
        return editor.make_copy()
    if call[0] == CALL_TURN:
        return editor.turn()
    if call[0] == CALL_POWER:
        return editor.power(call[2:])
    if call[0] == CALL_START:
        return editor.start()
    raise UnknownCall("no such call")


def answers(calls):
    """The answers of these calls on a new editor, each with how many numbers it has before it."""
    editor = Editor()
    given = []
    place = 0
    while place < len(calls):
        end = call_end(calls, place)
        numbers = answer(editor, calls[place:end])
        given.append(len(numbers))
        given.extend(numbers)
        place = end
    return given
