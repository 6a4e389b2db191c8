"""A file of the card, the room it takes, and what is said of it."""

from chipcard.words import two_bytes

FOLDER = 0x38
BYTES = 0x01
RECORDS = 0x02
ROUND = 0x06

OUTER_MARK = 0x62
KIND_MARK = 0x82
NUMBER_MARK = 0x83
SIZE_MARK = 0x80
NAME_MARK = 0x84
SHORT_MARK = 0x88
RIGHTS_MARK = 0x8C

RECORD_WAY = 0x21
NO_SHORT = 0
ROOM_OF_ANY = 32


class File:
    """A file of any kind; what its kind has no use for stays empty.

    The folder it lies in is told by that one's inner number.
    """

    def __init__(self, kind, number):
        self.kind = kind
        self.number = number
        self.short = NO_SHORT
        self.name = []
        self.reading = 0
        self.writing = 0
        self.size = 0
        self.content = []
        self.length = 0
        self.most = 0
        self.records = []
        self.folder = -1


def holds_records(kind):
    return kind in (RECORDS, ROUND)


def room_of(file):
    return ROOM_OF_ANY + len(file.name) + file.size + file.length * file.most


def field(mark, content):
    return [mark, len(content)] + content


def kind_field(file):
    content = [file.kind]
    if holds_records(file.kind):
        content = [file.kind, RECORD_WAY, 0, file.length, len(file.records)]
    return field(KIND_MARK, content)


def said_of(file):
    fields = kind_field(file) + field(NUMBER_MARK, two_bytes(file.number))
    if file.kind == BYTES:
        fields.extend(field(SIZE_MARK, two_bytes(file.size)))
    if len(file.name) > 0:
        fields.extend(field(NAME_MARK, file.name))
    if file.short != NO_SHORT:
        fields.extend(field(SHORT_MARK, [file.short]))
    fields.extend(field(RIGHTS_MARK, [file.reading, file.writing]))
    return field(OUTER_MARK, fields)
