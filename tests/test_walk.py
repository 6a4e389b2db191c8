"""Long lines of commands, picked by a seed: what a refusal leaves as it was, and the form of every answer."""

import random

from tests.helper import (
    ACTIVATE, NEW, RESET, TOP, WRONG, CardCase, add_record, by_name, change, choose, command, free, freer_of, how_is,
    make_bytes, make_folder, make_records, make_round, make_secret, near, read, read_record, read_short, secret_of,
    take_away, talk, tell, write, write_record, write_short)

WELL = (0x9000, 0x6282)


def changes_allowed(status):
    return status in WELL or status >> 4 == 0x63C


def means_by_short_number(step):
    if step[1] in (0xB0, 0xD6):
        return step[2] > 0x80
    return step[1] in (0xB2, 0xDC, 0xE2) and step[3] >= 8


def some_step(pick):
    number = pick.randrange(1, 6)
    short = pick.randrange(0, 4)
    rights = (pick.choice((0, 0, 1, 2, 15)), pick.choice((0, 0, 1, 2, 15)))
    which = pick.randrange(1, 4)
    data = [pick.randrange(4) for place in range(pick.choice((1, 2, 2, 3)))]
    steps = [
        make_bytes(number, pick.choice((0, 3, 5, 6000)), short, rights), make_records(number, 2, 3, short, rights),
        make_round(number, 2, 2, short, rights), make_folder(number, pick.choice(("", "a", "b")), rights),
        choose(TOP), near(number, 0, pick.choice((0, 12, 15))), near(number), choose(number, number + 1),
        by_name(pick.choice("abc")), take_away(number), read(pick.randrange(6), pick.randrange(8)),
        write(pick.randrange(6), data), read_short(short + 1, pick.randrange(6), pick.randrange(8)), write_short(short + 1, pick.randrange(4), data),
        read_record(pick.randrange(5), pick.randrange(4), short), write_record(pick.randrange(5), data, short),
        add_record(data, short), add_record(data, short), tell(which), tell(which, WRONG), how_is(which),
        change(which, secret_of(which), NEW), change(which, WRONG, NEW), free(which, freer_of(which), secret_of(which)),
        make_secret(which, pick.randrange(4), 2), RESET, command(0x10), [0, 0x44, 0], read(0, 0), near(number, 0, 0),
    ]
    if pick.randrange(200) == 0:
        return ACTIVATE
    return pick.choice(steps)


class Walk(CardCase):
    def test_refusals_leave_all_as_it_was(self):
        seen = set()
        for seed in range(60):
            pick = random.Random(seed)
            steps = [some_step(pick) for place in range(300)]
            said = talk(*steps)
            self.assertEqual(len(said), 300)
            kept = [(step, answer) for step, answer in zip(steps, said)
                    if step == RESET or changes_allowed(answer[0]) or means_by_short_number(step)]
            seen.update(answer[0] for answer in said if answer != 0)
            self.assertEqual(talk(*[step for step, answer in kept]), [answer for step, answer in kept], f"seed {seed}")
        # The walk is worth its while only as long as it comes by most of the status words.
        for status in (0x9000, 0x6282, 0x63C0, 0x63C1, 0x6700, 0x6981, 0x6982, 0x6983, 0x6985, 0x6986, 0x6A80, 0x6A82,
                       0x6A83, 0x6A84, 0x6A88, 0x6A89, 0x6B00, 0x6C02, 0x6D00):
            self.assertIn(status, seen, f"{status:04X}")

    def test_any_bytes_are_answered(self):
        pick = random.Random(5)
        instructions = (0xA4, 0xB0, 0xD6, 0xB2, 0xDC, 0xE2, 0x20, 0x24, 0x2C, 0xDA, 0xE0, 0xE4, 0x44)
        for place in range(300):
            steps = []
            for place in range(20):
                length = pick.randrange(20)
                tail = [pick.choice((0, 1, 2, 4, 255)) for place in range(length)]
                head = [0, pick.choice(instructions), pick.choice((0, 1, 4, 8, 0x81)), pick.randrange(0, 16)]
                steps.append(head + ([length] if length else []) + tail + pick.choice(([], [0])))
            for status, told in talk(*steps):
                self.assertLessEqual(len(told), 256)
                self.assertIn(status >> 12, (6, 9))
                if not changes_allowed(status):
                    self.assertEqual(told, [])
