"""Reading, writing and adding records."""

from chipcard.choosing import aim
from chipcard.files import RECORDS, ROUND
from chipcard.request import ALL, NOTHING
from chipcard.words import (
    LENGTH_IS,
    NO_RECORD,
    NO_ROOM,
    WELL,
    WRONG_KIND,
    WRONG_LENGTH,
    WRONG_PARAMETERS,
    only,
    reply,
)

BY_RECORD_NUMBER = 4
AT_THE_END = 0
NOT_A_SHORT = 31


def aim_at_records(card, request, ending, writes):
    short = request.second // 8
    if request.second % 8 != ending or short == NOT_A_SHORT:
        return WRONG_PARAMETERS
    return aim(card, short, (RECORDS, ROUND), writes)


def is_there(file, number):
    return 1 <= number <= len(file.records)


def read_record(card, request):
    status = aim_at_records(card, request, BY_RECORD_NUMBER, False)
    if status != WELL:
        return only(status)
    if len(request.data) > 0:
        return only(WRONG_LENGTH)
    file = card.chosen_file()
    if not is_there(file, request.first):
        return only(NO_RECORD)
    if request.asked == NOTHING:
        return only(WRONG_LENGTH)
    if request.asked not in (ALL, file.length):
        return only(LENGTH_IS + file.length)
    return reply(file.records[request.first - 1], WELL)


def write_record(card, request):
    status = aim_at_records(card, request, BY_RECORD_NUMBER, True)
    if status != WELL:
        return only(status)
    file = card.chosen_file()
    if file.kind == ROUND:
        return only(WRONG_KIND)
    if not request.brings(file.length):
        return only(WRONG_LENGTH)
    if not is_there(file, request.first):
        return only(NO_RECORD)
    file.records[request.first - 1] = request.data
    return only(WELL)


def add_record(card, request):
    if request.first != 0:
        return only(WRONG_PARAMETERS)
    status = aim_at_records(card, request, AT_THE_END, True)
    if status != WELL:
        return only(status)
    file = card.chosen_file()
    if not request.brings(file.length):
        return only(WRONG_LENGTH)
    if file.kind == ROUND:
        # The newest is number 1, so the oldest are those behind the most that it holds.
        records = [request.data] + file.records
        file.records = records[:file.most]
        return only(WELL)
    if len(file.records) == file.most:
        return only(NO_ROOM)
    file.records.append(request.data)
    return only(WELL)
