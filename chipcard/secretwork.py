"""Telling, changing, freeing and making secrets."""

from chipcard.card import Secret
from chipcard.request import NOTHING
from chipcard.words import (
    NO_SECRET,
    NO_TRIES,
    NOT_NOW,
    TRIES_LEFT,
    WELL,
    WRONG_DATA,
    WRONG_LENGTH,
    WRONG_PARAMETERS,
    only,
)

MOST_SECRETS = 8
WORD = 8
PAIR = 16
MOST_TRIES = 15


def aim_at_secret(request, first, lengths):
    """WELL if the parameters and the data's length are right; a secret need not be there yet."""
    if request.first != first or not 1 <= request.second <= MOST_SECRETS:
        return WRONG_PARAMETERS
    if request.asked != NOTHING or len(request.data) not in lengths:
        return WRONG_LENGTH
    return WELL


def aim_at_known(card, request, lengths):
    status = aim_at_secret(request, 0, lengths)
    if status == WELL and request.second not in card.secrets:
        return NO_SECRET
    return status


def told_wrong(secret):
    secret.told = False
    secret.tries = secret.tries - 1
    return only(TRIES_LEFT + secret.tries)


def renew(secret, word):
    secret.word = word
    secret.tries = secret.most_tries
    secret.told = False
    return only(WELL)


def standing(secret):
    if secret.told:
        return only(WELL)
    if secret.tries == 0:
        return only(NO_TRIES)
    return only(TRIES_LEFT + secret.tries)


def tell_secret(card, request):
    status = aim_at_known(card, request, (0, WORD))
    if status != WELL:
        return only(status)
    secret = card.secrets[request.second]
    if len(request.data) == 0:
        return standing(secret)
    if secret.tries == 0:
        return only(NO_TRIES)
    if request.data != secret.word:
        return told_wrong(secret)
    secret.told = True
    secret.tries = secret.most_tries
    return only(WELL)


def change_secret(card, request):
    status = aim_at_known(card, request, (PAIR,))
    if status != WELL:
        return only(status)
    secret = card.secrets[request.second]
    if secret.tries == 0:
        return only(NO_TRIES)
    if request.data[:WORD] != secret.word:
        return told_wrong(secret)
    return renew(secret, request.data[WORD:])


def free_secret(card, request):
    status = aim_at_known(card, request, (PAIR,))
    if status != WELL:
        return only(status)
    secret = card.secrets[request.second]
    if secret.freer_tries == 0:
        return only(NO_TRIES)
    if request.data[:WORD] != secret.freer:
        secret.freer_tries = secret.freer_tries - 1
        return only(TRIES_LEFT + secret.freer_tries)
    return renew(secret, request.data[WORD:])


def make_secret(card, request):
    status = aim_at_secret(request, 1, (PAIR + 2,))
    if status != WELL:
        return only(status)
    if card.active:
        return only(NOT_NOW)
    for tries in request.data[PAIR:]:
        if not 1 <= tries <= MOST_TRIES:
            return only(WRONG_DATA)
    made = Secret(request.data[:WORD], request.data[WORD:PAIR], request.data[PAIR], request.data[PAIR + 1])
    if request.second in card.secrets:
        made.told = card.secrets[request.second].told
    card.secrets[request.second] = made
    return only(WELL)
