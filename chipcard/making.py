"""Making files, taking them away, and making the card active."""

from chipcard.card import NONE
from chipcard.request import NOTHING
from chipcard.wanted import wanted_file
from chipcard.words import (
    IN_USE,
    NO_RIGHT,
    NO_ROOM,
    NOT_NOW,
    NOT_THERE,
    WELL,
    WRONG_DATA,
    WRONG_LENGTH,
    WRONG_PARAMETERS,
    number_of,
    only,
)


def may_make(card):
    return card.allows(card.chosen_folder().reading)


def make_file(card, request):
    if not request.is_plain():
        return only(WRONG_PARAMETERS)
    if len(request.data) == 0 or request.asked != NOTHING:
        return only(WRONG_LENGTH)
    if not may_make(card):
        return only(NO_RIGHT)
    file = wanted_file(request.data)
    if file is None:
        return only(WRONG_DATA)
    if card.clashes(file):
        return only(IN_USE)
    if not card.has_room_for(file):
        return only(NO_ROOM)
    card.put_in(file)
    return only(WELL)


def take_away(card, request):
    if not request.is_plain():
        return only(WRONG_PARAMETERS)
    if not request.brings(2):
        return only(WRONG_LENGTH)
    if not may_make(card):
        return only(NO_RIGHT)
    inner = card.find_number(card.folder, number_of(request.data))
    if inner == NONE:
        return only(NOT_THERE)
    if len(card.inside(inner)) > 0:
        return only(NOT_NOW)
    card.take_out(inner)
    return only(WELL)


def activate(card, request):
    if not request.is_plain():
        return only(WRONG_PARAMETERS)
    if not request.brings(0):
        return only(WRONG_LENGTH)
    if card.active:
        return only(NOT_NOW)
    card.active = True
    card.begin_anew()
    return only(WELL)
