"""The desk: a line of calls about one new card, answered in order."""

from chipcard.card import Card
from chipcard.orders import obey

COMMAND = 1
MOST_BYTES = 261
REFUSAL = -1


def command(card, given):
    if len(given) > MOST_BYTES:
        return [REFUSAL]
    told = obey(card, given)
    return [len(told)] + told


def reset(card):
    card.begin_anew()
    return [0]


def answers(calls):
    card = Card()
    collected = []
    place = 0
    while place < len(calls):
        if calls[place] == COMMAND:
            start = place + 2
            end = start + calls[place + 1]
            answer = command(card, calls[start:end])
            place = end
        else:
            answer = reset(card)
            place = place + 1
        collected.append(len(answer))
        collected.extend(answer)
    return collected
