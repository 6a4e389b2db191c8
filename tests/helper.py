"""What the tests share: commands, put together by name, and a card's answers to a line of them."""

import unittest

from chipcard.desk import answers

RESET = "reset"
TOP = 0x3F00
OK = 0x9000


def command(instruction, p1=0, p2=0, data=(), asked=None, group=0):
    """A command's bytes. asked: the byte as it's written (0 stands for 256), or None for nothing."""
    given = [group, instruction, p1, p2]
    if data:
        given += [len(data)] + list(data)
    if asked is not None:
        given.append(asked)
    return given


def two(number):
    return [number >> 8, number & 255]


def text(word):
    return [ord(sign) for sign in word]


def choose(*numbers, p2=0x0C, asked=None):
    """By a path from the top; the top folder itself by its number."""
    if numbers == (TOP,):
        return command(0xA4, 0, p2, two(TOP), asked)
    return command(0xA4, 8, p2, [byte for number in numbers for byte in two(number)], asked)


def near(number, p2=0x0C, asked=None):
    return command(0xA4, 0, p2, two(number), asked)


def by_name(name, p2=0x0C, asked=None):
    return command(0xA4, 4, p2, text(name), asked)


def fields(*parts):
    joined = [byte for part in parts for byte in part]
    return [0x62, len(joined)] + joined


def field(mark, *content):
    return [mark, len(content)] + list(content)


def folder_told(number, name="", rights=(0, 0)):
    named = [field(0x84, *text(name))] if name else []
    return fields(field(0x82, 0x38), field(0x83, *two(number)), *named, field(0x8C, *rights))


def short_field(short):
    return [field(0x88, short)] if short else []


def bytes_told(number, size, short=0, rights=(0, 0)):
    return fields(field(0x82, 0x01), field(0x83, *two(number)), field(0x80, *two(size)),
                  *short_field(short), field(0x8C, *rights))


def records_told(number, length, many, short=0, rights=(0, 0), kind=0x02):
    return fields(field(0x82, kind, 0x21, 0, length, many), field(0x83, *two(number)),
                  *short_field(short), field(0x8C, *rights))


def make(wanted):
    return command(0xE0, 0, 0, wanted)


def make_folder(number, name="", rights=(0, 0)):
    return make(folder_told(number, name, rights))


def make_bytes(number, size, short=0, rights=(0, 0)):
    return make(bytes_told(number, size, short, rights))


def make_records(number, length, most, short=0, rights=(0, 0)):
    return make(records_told(number, length, most, short, rights))


def make_round(number, length, most, short=0, rights=(0, 0)):
    return make(records_told(number, length, most, short, rights, 0x06))


def take_away(number):
    return command(0xE4, 0, 0, two(number))


def read(place, asked=0):
    return command(0xB0, place >> 8, place & 255, (), asked)


def write(place, data):
    return command(0xD6, place >> 8, place & 255, data)


def read_short(short, place, asked=0):
    return command(0xB0, 0x80 + short, place, (), asked)


def write_short(short, place, data):
    return command(0xD6, 0x80 + short, place, data)


def read_record(number, asked=0, short=0):
    return command(0xB2, number, short * 8 + 4, (), asked)


def write_record(number, data, short=0):
    return command(0xDC, number, short * 8 + 4, data)


def add_record(data, short=0):
    return command(0xE2, 0, short * 8, data)


def secret_of(which):
    return [which] * 8


def freer_of(which):
    return [100 + which] * 8


WRONG = [99] * 8
NEW = [1, 2, 3, 4, 5, 6, 7, 8]


def make_secret(which, tries=3, freer_tries=2):
    return command(0xDA, 1, which, secret_of(which) + freer_of(which) + [tries, freer_tries])


def tell(which, data=None):
    return command(0x20, 0, which, secret_of(which) if data is None else data)


def how_is(which):
    return command(0x20, 0, which)


def change(which, old, new):
    return command(0x24, 0, which, old + new)


def free(which, freer, new):
    return command(0x2C, 0, which, freer + new)


ACTIVATE = command(0x44)


def calls_of(steps):
    calls = []
    for step in steps:
        if step == RESET:
            calls.append(2)
        else:
            calls += [1, len(step)] + step
    return calls


def taken_apart(given_back):
    """The answers one by one, each a list."""
    found = []
    place = 0
    while place < len(given_back):
        end = place + 1 + given_back[place]
        found.append(given_back[place + 1:end])
        place = end
    if place != len(given_back):
        raise AssertionError("the last answer is shorter than it says")
    return found


def meaning(answer):
    """0 of a reset; of a command a pair: the status word, what's told."""
    if len(answer) == 1:
        return answer[0]
    if answer[0] != len(answer) - 1:
        raise AssertionError("an answer has not as many bytes as it says")
    return (answer[-2] << 8) + answer[-1], answer[1:-2]


def talk(*steps):
    return [meaning(answer) for answer in taken_apart(answers(calls_of(steps)))]


class CardCase(unittest.TestCase):
    def well(self, *steps):
        """Hand back the steps after seeing that each of them goes well on a new card."""
        for step, said in zip(steps, talk(*steps)):
            self.assertIn(said if step == RESET else said[0], (0, OK), step)
        return list(steps)

    def says(self, before, step, status, told=()):
        self.assertEqual(talk(*before, step)[-1], (status, list(told)), [f"{byte:02X}" for byte in step])

    def goes(self, *pairs):
        """A line of steps, each with its status word, or with a pair of that and what's told."""
        said = talk(*[step for step, wanted in pairs])
        for place, (step, wanted) in enumerate(pairs):
            if isinstance(wanted, int) and step != RESET:
                wanted = (wanted, [])
            self.assertEqual(said[place], wanted, f"step {place}: {step}")

    def changes_nothing(self, before, step, status, after):
        """The step is refused, and what follows is answered as if it had not been there."""
        self.says(before, step, status)
        self.assertEqual(talk(*before, step, *after)[len(before) + 1:], talk(*before, *after)[len(before):])
