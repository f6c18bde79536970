"""The journal's records: their bytes, how bytes are read, what records bring about."""

CHANGE = 1
MARK = 2
WHOLE = 3
LONGEST_TEXT = 200
FRAME = 4


def low_and_high(number):
    return [number % 256, number // 256]


def record(body):
    return [len(body), 255 - len(body)] + body + [sum(body) % 256, 255]


def change_record(place, gone, coming):
    return record([CHANGE, place, gone] + coming)


def mark_record(number):
    return record([MARK] + low_and_high(number))


def whole_record(text):
    return record([WHOLE] + text)


def is_known(body):
    if body[0] == CHANGE:
        return len(body) >= 3
    if body[0] == MARK:
        return len(body) == 3
    return body[0] == WHOLE


def body_at(row, place):
    """The body of the record that begins at the place; no bytes if none is right there."""
    if place + 2 > len(row):
        return []
    size = row[place]
    if size == 0 or size + row[place + 1] != 255:
        return []
    end = place + 2 + size
    if end + 2 > len(row):
        return []
    body = row[place + 2:end]
    if row[end] != sum(body) % 256 or row[end + 1] != 255:
        return []
    return body if is_known(body) else []


def read_bodies(row):
    """The bodies of the records read in these bytes, up to the first that isn't right."""
    bodies = []
    place = 0
    body = body_at(row, place)
    while len(body) > 0:
        bodies.append(body)
        place = place + len(body) + FRAME
        body = body_at(row, place)
    return bodies


def goes_beyond(text, place, gone):
    return place + gone > len(text)


def changed(text, place, gone, coming):
    return text[:place] + coming + text[place + gone:]


def text_behind(text, body):
    """The text behind a change or a whole text; None if that can't be brought about."""
    if body[0] == WHOLE:
        behind = body[1:]
    elif goes_beyond(text, body[1], body[2]):
        return None
    else:
        behind = changed(text, body[1], body[2], body[3:])
    return behind if len(behind) <= LONGEST_TEXT else None


class Brought:
    """What records have brought about: the text, and what a mark keeps of it."""

    def __init__(self):
        self.text = []
        self.kept = []
        self.kept_mark = 0


def bring_about(bodies):
    brought = Brought()
    for body in bodies:
        if body[0] == MARK:
            brought.kept = brought.text
            brought.kept_mark = body[1] + 256 * body[2]
        else:
            behind = text_behind(brought.text, body)
            if behind is None:
                return brought
            brought.text = behind
    return brought
