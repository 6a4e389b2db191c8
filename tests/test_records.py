"""B2H, read a record; DCH, write a record; E2H, add a record."""

from tests.helper import (
    ACTIVATE, OK, RESET, TOP, CardCase, add_record, choose, command, make_bytes, make_folder, make_records, make_round,
    near, read_record, records_told, write_record)

THREE = [make_records(1, 2, 4, 1), add_record([1, 1]), add_record([2, 2]), add_record([3, 3])]
AROUND = [make_round(1, 2, 3, 1), add_record([1, 1]), add_record([2, 2]), add_record([3, 3])]


class Adding(CardCase):
    def reads(self, before, records):
        for place, record in enumerate(records):
            self.says(self.well(*before), read_record(place + 1), OK, record)
        self.says(before, read_record(len(records) + 1), 0x6A83)

    def test_none_at_first(self):
        self.reads([make_records(1, 2, 4)], [])
        self.reads([make_round(1, 2, 4)], [])

    def test_number_1_is_the_first(self):
        self.reads(THREE[:2], [[1, 1]])
        self.reads(THREE, [[1, 1], [2, 2], [3, 3]])

    def test_no_room(self):
        full = THREE + [add_record([4, 4])]
        self.reads(full, [[1, 1], [2, 2], [3, 3], [4, 4]])
        self.changes_nothing(full, add_record([5, 5]), 0x6A84, [read_record(1), read_record(4), near(1, 0, 0)])
        self.says([make_records(1, 1, 1), add_record([1])], add_record([1]), 0x6A84)

    def test_most_of_255(self):
        before = [make_records(1, 1, 255)] + [add_record([many]) for many in range(255)]
        self.says(self.well(*before), read_record(255), OK, [254])
        self.says(before, add_record([9]), 0x6A84)
        self.says(before, near(1, 0, 0), OK, records_told(1, 1, 255))

    def test_round_number_1_is_the_newest(self):
        self.reads(AROUND[:2], [[1, 1]])
        self.reads(AROUND[:3], [[2, 2], [1, 1]])
        self.reads(AROUND, [[3, 3], [2, 2], [1, 1]])

    def test_round_the_oldest_is_left_out(self):
        self.reads(AROUND + [add_record([4, 4])], [[4, 4], [3, 3], [2, 2]])
        self.reads(AROUND + [add_record([many] * 2) for many in range(4, 9)], [[8, 8], [7, 7], [6, 6]])
        self.reads([make_round(1, 1, 1), add_record([1]), add_record([2])], [[2]])

    def test_lengths(self):
        for before in (THREE, AROUND, THREE + [add_record([4, 4])]):
            for step in (add_record([]), add_record([1]), add_record([1, 1, 1]), command(0xE2, 0, 0, [1, 1], 0),
                         command(0xE2, 0, 0, (), 2)):
                self.changes_nothing(before, step, 0x6700, [near(1, 0, 0), read_record(1)])

    def test_parameters(self):
        for p1 in (1, 2, 4, 255):
            self.says(THREE, command(0xE2, p1, 0, [1, 1]), 0x6A86)
            self.says([], command(0xE2, p1, 0), 0x6A86)
        for p2 in range(256):
            if p2 % 8 != 0 or p2 == 248:
                self.says(THREE, command(0xE2, 0, p2, [1, 1]), 0x6A86)
            elif p2 > 8:
                self.says(THREE, command(0xE2, 0, p2, [1, 1]), 0x6A82)
            else:
                self.says(THREE, command(0xE2, 0, p2, [1, 1]), OK)


class Reading(CardCase):
    def test_its_length_or_256(self):
        for before in (THREE, AROUND):
            self.says(before, read_record(2, 2), OK, [2, 2])
            self.says(before, read_record(2, 0), OK, [2, 2])
            for asked in (1, 3, 4, 255):
                self.says(before, read_record(2, asked), 0x6C02)

    def test_length_of_255(self):
        before = self.well(make_records(1, 255, 1), add_record(list(range(255))))
        self.says(before, read_record(1, 255), OK, range(255))
        self.says(before, read_record(1, 0), OK, range(255))
        self.says(before, read_record(1, 254), 0x6CFF)

    def test_not_there(self):
        for before in (THREE, AROUND):
            for number in (0, 4, 5, 255):
                self.says(before, read_record(number), 0x6A83)
                self.says(before, read_record(number, 9), 0x6A83)
                # That it isn't there comes ahead of what's asked, behind what's handed over.
                self.says(before, command(0xB2, number, 4), 0x6A83)
                self.says(before, command(0xB2, number, 4, [1], 2), 0x6700)

    def test_lengths(self):
        for before in (THREE, AROUND):
            self.says(before, command(0xB2, 1, 4), 0x6700)
            self.says(before, command(0xB2, 1, 4, [1, 1]), 0x6700)
            self.says(before, command(0xB2, 1, 4, [1, 1], 2), 0x6700)


class Writing(CardCase):
    def test_in_its_place(self):
        before = self.well(*THREE, write_record(2, [8, 9]))
        self.goes(*[(step, OK) for step in before], (read_record(1), (OK, [1, 1])), (read_record(2), (OK, [8, 9])),
                  (read_record(3), (OK, [3, 3])), (near(1, 0, 0), (OK, records_told(1, 2, 3, 1))),
                  (write_record(1, [5, 5]), OK), (write_record(3, [6, 6]), OK), (read_record(1), (OK, [5, 5])),
                  (read_record(3), (OK, [6, 6])), (add_record([7, 7]), OK), (read_record(4), (OK, [7, 7])))

    def test_not_there(self):
        for number in (0, 4, 5, 255):
            self.changes_nothing(THREE, write_record(number, [1, 1]), 0x6A83, [near(1, 0, 0), read_record(1)])

    def test_lengths_come_ahead_of_the_number(self):
        for number in (0, 1, 4):
            for step in (command(0xDC, number, 4), command(0xDC, number, 4, [1]), command(0xDC, number, 4, [1, 1, 1]),
                         command(0xDC, number, 4, [1, 1], 0), command(0xDC, number, 4, (), 2)):
                self.changes_nothing(THREE, step, 0x6700, [read_record(1)])

    def test_not_where_they_go_round(self):
        for step in (write_record(1, [9, 9]), write_record(0, [9, 9]), write_record(1, [9]), command(0xDC, 1, 4),
                     command(0xDC, 1, 12, [9, 9])):
            self.changes_nothing(AROUND, step, 0x6981, [read_record(1), read_record(2), read_record(3)])


class Meant(CardCase):
    def test_parameters(self):
        for p2 in range(256):
            if p2 % 8 != 4 or p2 // 8 == 31:
                self.says(THREE, command(0xB2, 1, p2, (), 0), 0x6A86)
                self.says([], command(0xB2, 1, p2), 0x6A86)
                self.says(THREE, command(0xDC, 1, p2, [1, 1]), 0x6A86)
            elif p2 > 12:
                self.says(THREE, command(0xB2, 1, p2, (), 0), 0x6A82)
                self.says(THREE, command(0xDC, 1, p2, [1, 1]), 0x6A82)
            else:
                self.says(THREE, command(0xB2, 1, p2, (), 0), OK, [1, 1])
                self.says(THREE, command(0xDC, 1, p2, [1, 1]), OK)

    def test_none_chosen(self):
        for step in (read_record(1), write_record(1, [1, 1]), add_record([1, 1]), command(0xB2, 0, 4),
                     command(0xDC, 0, 4), command(0xE2, 0, 0)):
            self.says([], step, 0x6986)
            self.says(THREE + [choose(TOP)], step, 0x6986)
            self.says(THREE + [RESET], step, 0x6986)

    def test_short_number(self):
        before = self.well(*THREE, make_round(2, 1, 2, 30), add_record([7]), choose(TOP))
        self.says(before, read_record(3, 2, 1), OK, [3, 3])
        self.says(before, read_record(1, 1, 30), OK, [7])
        self.says(before + [write_record(1, [9, 8], 1)], read_record(1, 2, 1), OK, [9, 8])
        self.says(before + [add_record([8], 30)], read_record(1, 1, 30), OK, [8])
        self.says(before + [add_record([8, 8], 1)], read_record(4, 2, 1), OK, [8, 8])

    def test_short_number_of_the_chosen_folder_alone(self):
        before = self.well(*THREE, make_folder(2))
        for step in (read_record(1, 2, 1), write_record(1, [1, 1], 1), add_record([1, 1], 1)):
            self.says(before, step, 0x6A82)

    def test_chosen_from_here_on(self):
        before = self.well(*THREE, make_round(2, 1, 2, 2), add_record([7]), choose(TOP))
        self.says(before + [read_record(1, 0, 1)], read_record(2), OK, [2, 2])
        self.says(before + [write_record(1, [5, 5], 1)], read_record(1), OK, [5, 5])
        self.says(before + [add_record([5], 2)], read_record(2), OK, [7])

    def test_chosen_though_it_is_refused(self):
        before = self.well(*THREE, make_round(2, 1, 2, 2), add_record([7]))
        for step, status in ((read_record(9, 0, 1), 0x6A83), (read_record(1, 5, 1), 0x6C02),
                             (command(0xB2, 1, 12), 0x6700), (write_record(9, [1, 1], 1), 0x6A83),
                             (write_record(1, [1], 1), 0x6700), (add_record([1], 1), 0x6700)):
            self.says(before, step, status)
            self.says(before + [step], read_record(2), OK, [2, 2])

    def test_chosen_though_there_is_no_room(self):
        before = self.well(*THREE, add_record([4, 4]), make_bytes(2, 1))
        self.says(before, add_record([5, 5], 1), 0x6A84)
        self.says(before + [add_record([5, 5], 1)], read_record(4), OK, [4, 4])

    def test_not_records(self):
        for step in (read_record(1), read_record(0, 0, 5), write_record(1, [1, 1]), write_record(1, [1, 1], 5),
                     add_record([1, 1]), add_record([1, 1], 5), command(0xB2, 0, 4), command(0xDC, 0, 4),
                     command(0xE2, 0, 0)):
            self.says([make_bytes(1, 9, 5)], step, 0x6981)


class Order(CardCase):
    def test_rights(self):
        for made in (make_records, make_round):
            before = self.well(made(1, 2, 3, 1, (0, 15)), add_record([1, 1]), made(2, 2, 3, 2, (15, 0)),
                               add_record([1, 1]), make_bytes(3, 2, 3, (15, 15)), ACTIVATE)
            self.says(before, read_record(1, 0, 1), OK, [1, 1])
            self.says(before, read_record(1, 0, 2), 0x6982)
            self.says(before, write_record(1, [2, 2], 1), 0x6982)
            self.says(before, add_record([2, 2], 1), 0x6982)
            self.says(before, add_record([2, 2], 2), OK)
            self.says(before, command(0xB2, 0, 20), 0x6982)
            self.says(before, command(0xDC, 0, 12), 0x6982)
            self.says(before, command(0xE2, 0, 8), 0x6982)
            self.says(before, read_record(1, 0, 3), 0x6981)
            self.says(before, write_record(1, [2, 2], 3), 0x6981)
            self.says(before, add_record([2, 2], 3), 0x6981)

    def test_written_with_the_right(self):
        before = self.well(make_records(2, 2, 3, 2, (15, 0)), add_record([1, 1]), ACTIVATE)
        self.says(before, write_record(1, [2, 2], 2), OK)
        before = self.well(make_round(2, 2, 3, 2, (0, 0)), add_record([1, 1]), ACTIVATE)
        self.says(before, write_record(1, [2, 2], 2), 0x6981)
