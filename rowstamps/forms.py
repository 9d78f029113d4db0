"""Groups and pictures as bytes: how they are written and how they are read.

A group's changes are pairs of place and content, None if it's gone; a picture's rows are triples
of place, stamp and content. Both rise by place.
"""

from rowstamps.limits import CONTENT_MOST, ROWS, STAMP_MOST, TABLES
from rowstamps.state import place_of

# How many bytes there are ahead of the first change or row, and in each beside its content.
HEAD_BYTES = 12
GONE_BYTES = 4
CHANGE_BYTES = 8
ROW_BYTES = 15


class WrongForm(ValueError):
    """The bytes are no group, or no picture."""


class ByteReader:
    """Goes through the bytes of a group or a picture, and raises WrongForm where they end too early.

    Before is the place that was read last: the places behind it must rise.
    """

    def __init__(self, given):
        self.given = given
        self.at = 0
        self.before = -1

    def is_at_end(self):
        return self.at == len(self.given)

    def take_part(self, many):
        start = self.at
        if many > len(self.given) - start:
            raise WrongForm("cut short")
        self.at = start + many
        return self.given[start:self.at]

    def take_whole(self, many):
        """A whole number of so many bytes, the lowest first."""
        number = 0
        for byte in reversed(self.take_part(many)):
            number = number * 256 + byte
        return number


def whole_bytes(number, many):
    told = []
    rest = number
    for k in range(many):
        told.append(rest % 256)
        rest = rest // 256
    return told


def place_bytes(place):
    return whole_bytes(place // ROWS, 1) + whole_bytes(place % ROWS, 2)


def group_length(changes):
    return HEAD_BYTES + sum([GONE_BYTES if pair[1] is None else CHANGE_BYTES + len(pair[1]) for pair in changes])


def group_bytes(stamp, changes):
    told = whole_bytes(stamp, 8) + whole_bytes(len(changes), 4)
    for place, content in changes:
        told.extend(place_bytes(place))
        if content is None:
            told.append(0)
        else:
            told.append(1)
            told.extend(whole_bytes(len(content), 4))
            told.extend(content)
    return told


def picture_length(rows):
    return HEAD_BYTES + sum([ROW_BYTES + len(row[2]) for row in rows])


def picture_bytes(last, rows):
    told = whole_bytes(last, 8) + whole_bytes(len(rows), 4)
    for place, stamp, content in rows:
        told.extend(place_bytes(place))
        told.extend(whole_bytes(stamp, 8))
        told.extend(whole_bytes(len(content), 4))
        told.extend(content)
    return told


def read_stamp(reader, least, most):
    stamp = reader.take_whole(8)
    if stamp < least or stamp > most:
        raise WrongForm("a stamp out of its range")
    return stamp


def read_place(reader):
    table = reader.take_whole(1)
    place = place_of(table, reader.take_whole(2))
    if table >= TABLES or place <= reader.before:
        raise WrongForm("a table that isn't there, or rows that don't rise")
    reader.before = place
    return place


def read_content(reader):
    many = reader.take_whole(4)
    if many > CONTENT_MOST:
        raise WrongForm("a content that is too long")
    return reader.take_part(many)


def read_change(reader):
    place = read_place(reader)
    kind = reader.take_whole(1)
    if kind > 1:
        raise WrongForm("neither gone nor a content")
    return (place, read_content(reader) if kind == 1 else None)


def read_row(reader, last):
    place = read_place(reader)
    stamp = read_stamp(reader, 1, last)
    return (place, stamp, read_content(reader))


def read_group(given):
    """The stamp and the changes."""
    reader = ByteReader(given)
    stamp = read_stamp(reader, 1, STAMP_MOST)
    many = reader.take_whole(4)
    changes = []
    while len(changes) < many:
        changes.append(read_change(reader))
    if many == 0 or not reader.is_at_end():
        raise WrongForm("no change, or more bytes than changes")
    return (stamp, changes)


def read_picture(given):
    """The last stamp and the rows."""
    reader = ByteReader(given)
    last = read_stamp(reader, 0, STAMP_MOST)
    many = reader.take_whole(4)
    rows = []
    while len(rows) < many:
        rows.append(read_row(reader, last))
    if not reader.is_at_end():
        raise WrongForm("more bytes than rows")
    return (last, rows)
