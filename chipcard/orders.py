"""Which instruction does what."""

from chipcard.bytework import read_bytes, write_bytes
from chipcard.choosing import choose
from chipcard.making import activate, make_file, take_away
from chipcard.recordwork import add_record, read_record, write_record
from chipcard.request import read_request
from chipcard.secretwork import change_secret, free_secret, make_secret, tell_secret
from chipcard.words import NO_CLASS, NO_INSTRUCTION, WRONG_LENGTH, only


def obey(card, given):
    """The reply's bytes: what's told and the status word."""
    request = read_request(given)
    if request is None:
        return only(WRONG_LENGTH)
    if request.group != 0:
        return only(NO_CLASS)
    orders = {
        0xA4: choose,
        0xB0: read_bytes,
        0xD6: write_bytes,
        0xB2: read_record,
        0xDC: write_record,
        0xE2: add_record,
        0x20: tell_secret,
        0x24: change_secret,
        0x2C: free_secret,
        0xDA: make_secret,
        0xE0: make_file,
        0xE4: take_away,
        0x44: activate,
    }
    if request.instruction not in orders:
        return only(NO_INSTRUCTION)
    order = orders[request.instruction]
    return order(card, request)
