"""Reset, and the card as it is at first."""

from tests.helper import (
    ACTIVATE, NEW, OK, RESET, TOP, WRONG, CardCase, add_record, by_name, choose, command, folder_told, free, how_is,
    make_bytes, make_folder, make_records, make_secret, near, read, read_record, read_short, records_told, take_away,
    talk, tell, two, write)

BUSY = [
    make_secret(1), make_secret(2), make_folder(1, "a"), make_bytes(2, 4, 1), write(0, [1, 2, 3, 4]), choose(TOP),
    make_records(3, 1, 2, 2), add_record([7]), tell(1), tell(2), tell(2, WRONG), free(1, WRONG, NEW), choose(1, 2),
]


class AtFirst(CardCase):
    def test_the_top_folder_alone(self):
        self.says([], near(TOP, 0, 0), OK, folder_told(TOP, "", (0, 0)))
        for number in (0, 1, 0x0001, 0x1000, 0x3F01, 0xFFFF):
            self.says([], near(number), 0x6A82)
            self.says([], command(0xA4, 8, 0x0C, two(number)), 0x6A82)
            self.says([], take_away(number), 0x6A82)
        self.says([], by_name("a"), 0x6A82)
        for short in range(1, 31):
            self.says([], read_short(short, 0), 0x6A82)
            self.says([], read_record(1, 0, short), 0x6A82)

    def test_the_top_folder_is_chosen_and_no_file(self):
        self.says([], read(0, 0), 0x6986)
        self.says([make_bytes(5, 1)], choose(5), OK)

    def test_no_secrets(self):
        for which in range(1, 9):
            self.says([], how_is(which), 0x6A88)

    def test_not_active(self):
        self.says([], ACTIVATE, OK)
        self.says([], make_secret(1), OK)

    def test_rights_of_the_top_folder(self):
        self.says([ACTIVATE], make_bytes(1, 4), OK)
        self.says([ACTIVATE, make_bytes(1, 4)], take_away(1), OK)


class Reset(CardCase):
    def test_it_answers_nought(self):
        self.assertEqual(talk(RESET), [0])
        self.assertEqual(talk(RESET, RESET, ACTIVATE, RESET), [0, 0, (OK, []), 0])

    def test_no_secret_is_told(self):
        self.says(BUSY, how_is(1), OK)
        self.says(BUSY + [RESET], how_is(1), 0x63C3)
        before = [make_secret(which) for which in range(1, 9)] + [tell(which) for which in range(1, 9)]
        for which in range(1, 9):
            self.says(before, how_is(which), OK)
            self.says(before + [RESET], how_is(which), 0x63C3)

    def test_top_is_chosen_and_no_file(self):
        self.says(BUSY, read(0, 0), OK, [1, 2, 3, 4])
        self.says(BUSY, near(2), OK)
        self.says(BUSY + [RESET], read(0, 0), 0x6986)
        self.says(BUSY + [RESET], near(2), 0x6A82)
        self.says(BUSY + [RESET], near(1, 0, 0), OK, folder_told(1, "a"))
        self.says(BUSY + [RESET], near(3), OK)

    def test_files_stay(self):
        self.says(BUSY + [RESET, choose(1, 2)], read(0, 0), OK, [1, 2, 3, 4])
        self.says(BUSY + [RESET], near(3, 0, 0), OK, records_told(3, 1, 1, 2))
        self.says(BUSY + [RESET], read_record(1, 0, 2), OK, [7])

    def test_secrets_and_tries_stay(self):
        self.says(BUSY + [RESET], how_is(2), 0x63C2)
        self.says(BUSY + [RESET], tell(2), OK)
        self.says(BUSY + [RESET], free(1, WRONG, NEW), 0x63C0)
        locked = [make_secret(1, 1), tell(1, WRONG), RESET]
        self.says(locked, tell(1), 0x6983)
        self.says(locked, how_is(1), 0x6983)

    def test_active_stays(self):
        self.says(BUSY + [RESET], make_secret(3), OK)
        self.says(BUSY + [RESET], ACTIVATE, OK)
        self.says(BUSY + [ACTIVATE, RESET], make_secret(3), 0x6985)
        self.says(BUSY + [ACTIVATE, RESET], ACTIVATE, 0x6985)

    def test_twice_is_as_once(self):
        after = [near(1), near(2), read(0, 0), how_is(1), how_is(2)]
        self.assertEqual(talk(*BUSY, RESET, RESET, *after)[len(BUSY) + 2:], talk(*BUSY, RESET, *after)[len(BUSY) + 1:])
