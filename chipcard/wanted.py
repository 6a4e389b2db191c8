"""What's wanted of a new file, read from a command's data."""

from chipcard.files import (
    BYTES,
    FOLDER,
    KIND_MARK,
    NAME_MARK,
    NUMBER_MARK,
    OUTER_MARK,
    RECORD_WAY,
    RIGHTS_MARK,
    SHORT_MARK,
    SIZE_MARK,
    File,
    holds_records,
)
from chipcard.words import number_of

RESERVED_NUMBERS = (0x3F00, 0xFFFF)
MOST_SHORT = 30
MOST_NAME = 16
MOST_RIGHT = 8
NEVER = 15


def fields_of(given):
    """Pairs of a mark and its bytes, or none at all where a length does not fit."""
    fields = []
    place = 0
    while place < len(given):
        if place + 1 == len(given):
            return []
        start = place + 2
        end = start + given[place + 1]
        if end > len(given):
            return []
        fields.append((given[place], given[start:end]))
        place = end
    return fields


def inner_fields(given):
    outer = fields_of(given)
    if len(outer) != 1 or outer[0][0] != OUTER_MARK:
        return []
    return fields_of(outer[0][1])


def kind_is_right(content):
    if len(content) == 1:
        return content[0] in (FOLDER, BYTES)
    if len(content) != 5 or not holds_records(content[0]):
        return False
    return content[1] == RECORD_WAY and content[2] == 0 and content[3] > 0 and content[4] > 0


def right_is_right(right):
    return right <= MOST_RIGHT or right == NEVER


def content_is_right(mark, content):
    if mark == KIND_MARK:
        return kind_is_right(content)
    if mark == NAME_MARK:
        return 1 <= len(content) <= MOST_NAME
    if mark == SHORT_MARK:
        return len(content) == 1 and 1 <= content[0] <= MOST_SHORT
    if len(content) != 2:
        return False
    if mark == NUMBER_MARK:
        return number_of(content) not in RESERVED_NUMBERS
    if mark == RIGHTS_MARK:
        return right_is_right(content[0]) and right_is_right(content[1])
    return mark == SIZE_MARK


def marks_in_order(kind, held):
    """The marks that a file of this kind is told with, those that it need not have only where held."""
    marks = [KIND_MARK, NUMBER_MARK]
    if kind == BYTES:
        marks.append(SIZE_MARK)
    choice = SHORT_MARK
    if kind == FOLDER:
        choice = NAME_MARK
    if choice in held:
        marks.append(choice)
    marks.append(RIGHTS_MARK)
    return marks


def file_of(held):
    kind = held[KIND_MARK]
    file = File(kind[0], number_of(held[NUMBER_MARK]))
    if NAME_MARK in held:
        file.name = held[NAME_MARK]
    if SHORT_MARK in held:
        file.short = held[SHORT_MARK][0]
    if SIZE_MARK in held:
        file.size = number_of(held[SIZE_MARK])
    if holds_records(file.kind):
        file.length = kind[3]
        file.most = kind[4]
    file.reading = held[RIGHTS_MARK][0]
    file.writing = held[RIGHTS_MARK][1]
    return file


def wanted_file(given):
    """The file that's wanted, still in no folder, or None where it isn't told right."""
    marks = []
    held = {}
    for mark, content in inner_fields(given):
        if not content_is_right(mark, content):
            return None
        marks.append(mark)
        held[mark] = content
    if KIND_MARK not in held or marks != marks_in_order(held[KIND_MARK][0], held):
        return None
    return file_of(held)
