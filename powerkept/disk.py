"""The disk: two files, the writes on their way to them, and which file is found."""

from powerkept.records import LONGEST_TEXT, MARK, WHOLE, low_and_high, mark_record, read_bodies, whole_record

HEAD_SIZE = 3


def head(number):
    return low_and_high(number) + [255]


def next_number(number):
    return (number + 1) % 65536


def first_records(text, mark):
    """What stands behind a file's head at first: without these two it doesn't count."""
    return whole_record(text) + mark_record(mark)


def file_number(row):
    return row[0] + 256 * row[1]


def file_bodies(row):
    return read_bodies(row[HEAD_SIZE:])


def counts(row):
    if len(row) < HEAD_SIZE or row[2] != 255:
        return False
    bodies = file_bodies(row)
    if len(bodies) < 2:
        return False
    # The body's first byte says what it is; the text is what's behind it.
    whole = bodies[0][0] == WHOLE and len(bodies[0]) - 1 <= LONGEST_TEXT
    return whole and bodies[1][0] == MARK


def with_bytes(row, place, coming):
    """The file's bytes once these have arrived at the place."""
    # A write of which nothing arrives doesn't lengthen the file up to its place.
    if len(coming) == 0:
        return row
    gap = [0] * max(0, place - len(row))
    return row[:place] + gap + coming + row[place + len(coming):]


class Write:
    """Bytes on their way to a place of a file."""

    def __init__(self, file, place, coming):
        self.file = file
        self.place = place
        self.coming = coming


class Disk:
    """Two files, and the writes on their way, in order."""

    def __init__(self):
        self.files = [[], []]
        self.writes = []

    def send(self, file, place, coming):
        self.writes.append(Write(file, place, coming))

    def put(self, file, row):
        """The file has just these bytes, at once."""
        self.files[file] = row

    def arrive(self, write, amount):
        self.files[write.file] = with_bytes(self.files[write.file], write.place, write.coming[:amount])

    def arrive_all(self):
        for write in self.writes:
            self.arrive(write, len(write.coming))
        self.writes = []

    def arrive_some(self, numbers):
        """Of each write as many bytes arrive as its number says; the rest is lost."""
        for write, number in zip(self.writes, numbers):
            self.arrive(write, number)
        self.writes = []

    def found_file(self):
        """Which file is found; None if no file counts."""
        found = None
        for file, row in enumerate(self.files):
            if counts(row) and (found is None or file_number(row) > file_number(self.files[found])):
                found = file
        return found
