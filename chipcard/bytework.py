"""Reading and writing bytes."""

from chipcard.choosing import aim
from chipcard.files import BYTES, NO_SHORT
from chipcard.request import ALL, NOTHING
from chipcard.words import (
    BEHIND_END,
    LESS_THERE,
    NO_ROOM,
    WELL,
    WRONG_LENGTH,
    WRONG_PARAMETERS,
    only,
    reply,
)

SHORT_BASE = 0x80
MOST_FIRST = 0x9F


def aim_at_bytes(card, request, writes):
    if request.first == SHORT_BASE or request.first > MOST_FIRST:
        return WRONG_PARAMETERS
    short = NO_SHORT
    if request.first > SHORT_BASE:
        short = request.first - SHORT_BASE
    return aim(card, short, (BYTES,), writes)


def place_of(request):
    if request.first > SHORT_BASE:
        return request.second
    return request.first * 256 + request.second


def is_behind_end(file, place):
    # The end itself is still a place of the file, though no byte is there.
    return place > file.size


def read_bytes(card, request):
    status = aim_at_bytes(card, request, False)
    if status != WELL:
        return only(status)
    if len(request.data) > 0 or request.asked == NOTHING:
        return only(WRONG_LENGTH)
    file = card.chosen_file()
    place = place_of(request)
    if is_behind_end(file, place):
        return only(BEHIND_END)
    told = file.content[place:place + request.asked]
    if len(told) < request.asked and request.asked != ALL:
        return reply(told, LESS_THERE)
    return reply(told, WELL)


def write_bytes(card, request):
    status = aim_at_bytes(card, request, True)
    if status != WELL:
        return only(status)
    if len(request.data) == 0 or request.asked != NOTHING:
        return only(WRONG_LENGTH)
    file = card.chosen_file()
    place = place_of(request)
    if is_behind_end(file, place):
        return only(BEHIND_END)
    end = place + len(request.data)
    if end > file.size:
        return only(NO_ROOM)
    file.content = file.content[:place] + request.data + file.content[end:]
    return only(WELL)
