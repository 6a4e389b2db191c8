"""The status words, and how a reply is put together."""

WELL = 0x9000
LESS_THERE = 0x6282
TRIES_LEFT = 0x63C0
WRONG_LENGTH = 0x6700
WRONG_KIND = 0x6981
NO_RIGHT = 0x6982
NO_TRIES = 0x6983
NOT_NOW = 0x6985
NONE_CHOSEN = 0x6986
WRONG_DATA = 0x6A80
NOT_THERE = 0x6A82
NO_RECORD = 0x6A83
NO_ROOM = 0x6A84
WRONG_PARAMETERS = 0x6A86
NO_SECRET = 0x6A88
IN_USE = 0x6A89
BEHIND_END = 0x6B00
LENGTH_IS = 0x6C00
NO_INSTRUCTION = 0x6D00
NO_CLASS = 0x6E00


def two_bytes(number):
    return [number // 256, number % 256]


def number_of(pair):
    return pair[0] * 256 + pair[1]


def reply(told, status):
    return told + two_bytes(status)


def only(status):
    return reply([], status)
