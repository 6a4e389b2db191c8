"""Choosing: the file that is meant, by its number, its name, its path or its short number."""

from chipcard.card import NONE, TOP, TOP_NUMBER
from chipcard.files import NO_SHORT, said_of
from chipcard.request import NOTHING
from chipcard.wanted import MOST_NAME
from chipcard.words import (
    LENGTH_IS,
    NO_RIGHT,
    NONE_CHOSEN,
    NOT_THERE,
    WELL,
    WRONG_KIND,
    WRONG_LENGTH,
    WRONG_PARAMETERS,
    number_of,
    only,
    reply,
)

BY_NUMBER = 0
BY_NAME = 4
BY_PATH = 8
TELL = 0x00
TELL_NOTHING = 0x0C


def find_near(card, number):
    """The top folder, a file of the chosen folder, or the folder that the chosen one is in."""
    if number == TOP_NUMBER:
        return TOP
    inner = card.find_number(card.folder, number)
    if inner != NONE:
        return inner
    outer = card.chosen_folder().folder
    if outer != NONE and card.slots[outer].number == number:
        return outer
    return NONE


def find_path(card, path):
    inner = TOP
    for place in range(0, len(path), 2):
        inner = card.find_number(inner, number_of(path[place:place + 2]))
        if inner == NONE:
            return NONE
    return inner


def choice_status(request):
    """WELL, or the word that refuses what the request says before a file is looked for."""
    length = len(request.data)
    if request.second not in (TELL, TELL_NOTHING):
        return WRONG_PARAMETERS
    if request.first == BY_NUMBER:
        fits = length == 2
    elif request.first == BY_NAME:
        fits = 1 <= length <= MOST_NAME
    elif request.first == BY_PATH:
        fits = length > 0 and length % 2 == 0
    else:
        return WRONG_PARAMETERS
    if fits:
        return WELL
    return WRONG_LENGTH


def find_choice(card, request):
    if request.first == BY_NUMBER:
        return find_near(card, number_of(request.data))
    if request.first == BY_NAME:
        return card.find_name(request.data)
    return find_path(card, request.data)


def choose(card, request):
    status = choice_status(request)
    if status != WELL:
        return only(status)
    inner = find_choice(card, request)
    if inner == NONE:
        return only(NOT_THERE)
    told = []
    if request.second == TELL and request.asked != NOTHING:
        told = said_of(card.slots[inner])
        if len(told) > request.asked:
            return only(LENGTH_IS + len(told))
    card.choose_inner(inner)
    return reply(told, WELL)


def aim(card, short, kinds, writes):
    """Choose the file of this short number, if one is told, and say whether the chosen file serves."""
    if short != NO_SHORT:
        inner = card.find_short(short)
        if inner == NONE:
            return NOT_THERE
        # It stays chosen even where the command is refused further on.
        card.choose_inner(inner)
    if card.file == NONE:
        return NONE_CHOSEN
    file = card.chosen_file()
    if file.kind not in kinds:
        return WRONG_KIND
    right = file.reading
    if writes:
        right = file.writing
    if not card.allows(right):
        return NO_RIGHT
    return WELL
