"""B0H, read bytes, and D6H, write bytes."""

from tests.helper import (
    ACTIVATE, NEW, OK, RESET, TOP, CardCase, choose, command, make_bytes, make_folder, make_records, make_round, near,
    read, read_short, take_away, write, write_short)

TEN = [10, 11, 12, 13, 14, 15, 16, 17, 18, 19]
FILLED = [make_bytes(1, 10, 1), write(0, TEN)]


class Reading(CardCase):
    def test_zeros_at_first(self):
        self.says([make_bytes(1, 5)], read(0, 5), OK, [0] * 5)
        self.says([make_bytes(1, 16000), choose(1)], read(15990, 10), OK, [0] * 10)

    def test_as_much_as_asked(self):
        self.says(FILLED, read(0, 10), OK, TEN)
        self.says(FILLED, read(0, 1), OK, [10])
        self.says(FILLED, read(3, 4), OK, [13, 14, 15, 16])
        self.says(FILLED, read(9, 1), OK, [19])
        self.says(FILLED, read(7, 3), OK, [17, 18, 19])

    def test_less_is_there(self):
        self.says(FILLED, read(0, 11), 0x6282, TEN)
        self.says(FILLED, read(0, 255), 0x6282, TEN)
        self.says(FILLED, read(8, 3), 0x6282, [18, 19])
        self.says(FILLED, read(9, 2), 0x6282, [19])

    def test_256_asked(self):
        self.says(FILLED, read(0, 0), OK, TEN)
        self.says(FILLED, read(9, 0), OK, [19])
        before = [make_bytes(1, 600), write(255, [1, 2])]
        self.says(before, read(0, 0), OK, [0] * 255 + [1])
        self.says(before, read(256, 0), OK, [2] + [0] * 255)
        self.says(before, read(344, 0), OK, [0] * 256)
        self.says(before, read(345, 0), OK, [0] * 255)

    def test_behind_the_end(self):
        for asked in (1, 10, 255, 0):
            self.says(FILLED, read(11, asked), 0x6B00)
            self.says(FILLED, read(12, asked), 0x6B00)
            self.says(FILLED, read(0x7FFF, asked), 0x6B00)
            self.says(FILLED, read(0x0100, asked), 0x6B00)

    def test_right_at_the_end(self):
        for asked in (1, 2, 10, 255):
            self.says(FILLED, read(10, asked), 0x6282)
        self.says(FILLED, read(10, 0), OK)
        # The length is looked at ahead of the place, here too.
        self.says(FILLED, command(0xB0, 0, 10), 0x6700)

    def test_right_at_the_end_of_many_bytes(self):
        for size in (1, 255, 256, 257, 16320):
            before = self.well(make_bytes(1, size))
            self.says(before, read(size - 1, 1), OK, [0])
            self.says(before, read(size, 1), 0x6282)
            self.says(before, read(size, 0), OK)
            self.says(before, read(size + 1, 1), 0x6B00)
            self.says(before, read(size + 1, 0), 0x6B00)

    def test_no_bytes_at_all(self):
        before = self.well(make_bytes(1, 0))
        self.says(before, read(0, 0), OK)
        self.says(before, read(0, 1), 0x6282)
        self.says(before, read(0, 255), 0x6282)
        self.says(before, read(1, 0), 0x6B00)
        self.says(before, read(1, 1), 0x6B00)

    def test_place_of_two_bytes(self):
        before = [make_bytes(1, 0x1300), write(0x1234, NEW)]
        self.says(before, read(0x1234, 8), OK, NEW)
        self.says(before, read(0x1233, 3), OK, [0, 1, 2])
        self.says(before, read(0x12FF, 1), OK, [0])
        self.says(before, read(0x12FF, 2), 0x6282, [0])
        self.says(before, read(0x1300, 1), 0x6282)
        self.says(before, read(0x1301, 1), 0x6B00)

    def test_lengths(self):
        self.says(FILLED, command(0xB0, 0, 0), 0x6700)
        self.says(FILLED, command(0xB0, 0, 0, [1]), 0x6700)
        self.says(FILLED, command(0xB0, 0, 0, [1], 5), 0x6700)
        # The length is looked at ahead of the place.
        self.says(FILLED, command(0xB0, 0, 99), 0x6700)
        self.says(FILLED, command(0xB0, 0, 99, [1], 5), 0x6700)

    def test_nothing_is_changed(self):
        self.goes(*[(step, OK) for step in FILLED], (read(0, 0), (OK, TEN)), (read(5, 9), (0x6282, TEN[5:])),
                  (read(0, 0), (OK, TEN)))


class Writing(CardCase):
    def reads(self, before, content):
        self.says(self.well(*before), read(0, 0), OK, content)

    def test_places(self):
        self.reads(FILLED, TEN)
        self.reads(FILLED + [write(0, [1])], [1] + TEN[1:])
        self.reads(FILLED + [write(9, [1])], TEN[:9] + [1])
        self.reads(FILLED + [write(3, [1, 2, 3])], TEN[:3] + [1, 2, 3] + TEN[6:])
        self.reads(FILLED + [write(2, NEW)], TEN[:2] + NEW)

    def test_longer_than_what_is_there(self):
        for place, data in ((0, TEN + [1]), (9, [1, 2]), (3, NEW), (1, TEN), (0, [1] * 255)):
            self.changes_nothing(FILLED, write(place, data), 0x6A84, [read(0, 0)])

    def test_behind_the_end(self):
        for place in (11, 12, 0x100, 0x7FFF):
            self.changes_nothing(FILLED, write(place, [1]), 0x6B00, [read(0, 0)])
            self.says(FILLED, write(place, [1] * 255), 0x6B00)

    def test_right_at_the_end(self):
        for data in ([1], [1, 2], [1] * 255):
            self.changes_nothing(FILLED, write(10, data), 0x6A84, [read(0, 0)])
        for size in (1, 255, 256, 257, 16320):
            before = self.well(make_bytes(1, size), write(size - 1, [1]))
            self.changes_nothing(before, write(size, [1]), 0x6A84, [read(size - 1, 0)])
            self.changes_nothing(before, write(size + 1, [1]), 0x6B00, [read(size - 1, 0)])
        # The length is looked at ahead of the place, here too.
        self.says(FILLED, command(0xD6, 0, 10), 0x6700)
        self.says(FILLED, command(0xD6, 0, 10, [1], 0), 0x6700)

    def test_no_bytes_at_all(self):
        before = self.well(make_bytes(1, 0))
        self.changes_nothing(before, write(0, [1]), 0x6A84, [read(0, 0), read(1, 0)])
        self.changes_nothing(before, write(1, [1]), 0x6B00, [read(0, 0), read(1, 0)])

    def test_lengths(self):
        for step in (command(0xD6), command(0xD6, asked=1), command(0xD6, 0, 0, [1], 1), command(0xD6, 0, 0, [1], 0)):
            self.changes_nothing(FILLED, step, 0x6700, [read(0, 0)])
        self.says(FILLED, command(0xD6, 0, 99), 0x6700)
        self.says(FILLED, command(0xD6, 0, 99, [1], 0), 0x6700)

    def test_other_files_stay(self):
        self.goes((make_bytes(1, 2), OK), (make_bytes(2, 2), OK), (write(0, [5, 6]), OK), (choose(1), OK),
                  (read(0, 0), (OK, [0, 0])), (write(1, [7]), OK), (choose(2), OK), (read(0, 0), (OK, [5, 6])),
                  (choose(1), OK), (read(0, 0), (OK, [0, 7])))

    def test_written_stays_over_reset_and_activate(self):
        before = self.well(*FILLED, RESET, choose(1))
        self.says(before, read(0, 0), OK, TEN)
        self.says(before + [ACTIVATE, choose(1)], read(0, 0), OK, TEN)


class Meant(CardCase):
    def test_none_chosen(self):
        for step in (read(0, 0), read(0x7FFF, 0), write(0, [1]), command(0xB0), command(0xD6)):
            self.says([], step, 0x6986)
            self.says(FILLED + [choose(TOP)], step, 0x6986)
            self.says(FILLED + [RESET], step, 0x6986)

    def test_short_number(self):
        before = self.well(make_bytes(1, 3, 1), write(0, [1, 2, 3]), make_bytes(2, 300, 30), write(250, NEW),
                           choose(TOP))
        self.says(before, read_short(1, 0), OK, [1, 2, 3])
        self.says(before, read_short(1, 2, 1), OK, [3])
        self.says(before, read_short(1, 2, 2), 0x6282, [3])
        self.says(before, read_short(1, 3), OK)
        self.says(before, read_short(1, 3, 1), 0x6282)
        self.says(before, read_short(1, 4), 0x6B00)
        self.says(before, read_short(1, 4, 1), 0x6B00)
        self.says(before, read_short(30, 250, 8), OK, NEW)
        self.says(before, read_short(30, 255, 3), OK, [6, 7, 8])
        self.says(before + [write_short(1, 1, [9])], read_short(1, 0), OK, [1, 9, 3])
        self.says(before, write_short(1, 3, [9]), 0x6A84)
        self.says(before, write_short(1, 4, [9]), 0x6B00)
        self.says(before, write_short(1, 2, [9, 9]), 0x6A84)
        self.says(before + [write_short(30, 255, [7])], read_short(30, 254, 3), OK, [5, 7, 7])

    def test_short_number_not_there(self):
        for short in list(range(2, 30)) + [31]:
            self.says([make_bytes(1, 3, 1), make_bytes(2, 3, 30)], read_short(short, 0), 0x6A82)
            self.says([make_bytes(1, 3, 1), make_bytes(2, 3, 30)], write_short(short, 0, [1]), 0x6A82)
        self.says([make_bytes(1, 3)], read_short(1, 0), 0x6A82)

    def test_short_number_of_the_chosen_folder_alone(self):
        before = self.well(make_bytes(1, 3, 1), make_folder(2), make_bytes(3, 4, 2))
        self.says(before, read_short(1, 0), 0x6A82)
        self.says(before, read_short(2, 0), OK, [0] * 4)
        self.says(before + [choose(TOP)], read_short(2, 0), 0x6A82)
        self.says(before + [choose(TOP)], read_short(1, 0), OK, [0] * 3)
        # The same short number may stand in another folder.
        self.says(before + [make_bytes(1, 7, 1)], read_short(1, 0), OK, [0] * 7)

    def test_first_parameter(self):
        for p1 in [0x80] + list(range(0xA0, 0x100)):
            self.says(FILLED, command(0xB0, p1, 0, (), 0), 0x6A86)
            self.says(FILLED, command(0xB0, p1, 0), 0x6A86)
            self.says(FILLED, command(0xD6, p1, 0, [1]), 0x6A86)
            self.says([], command(0xD6, p1, 0), 0x6A86)

    def test_chosen_from_here_on(self):
        before = self.well(make_bytes(1, 3, 1), make_bytes(2, 5, 2), choose(TOP), read_short(1, 0))
        self.says(before, read(0, 0), OK, [0] * 3)
        self.says(before + [write_short(2, 0, [1])], read(0, 0), OK, [1, 0, 0, 0, 0])

    def test_chosen_though_it_is_refused(self):
        before = self.well(make_bytes(1, 3, 1), make_bytes(2, 5, 2))
        for step, status in ((read_short(1, 4), 0x6B00), (write_short(1, 4, [1]), 0x6B00),
                             (write_short(1, 3, [1]), 0x6A84), (write_short(1, 0, [1] * 4), 0x6A84),
                             (read_short(1, 3, 1), 0x6282), (command(0xB0, 0x81, 0), 0x6700),
                             (command(0xD6, 0x81, 0), 0x6700), (command(0xB0, 0x81, 0, [1], 1), 0x6700)):
            self.says(before, step, status)
            self.says(before + [step], read(0, 0), OK, [0] * 3)

    def test_not_there_leaves_what_is_chosen(self):
        self.changes_nothing(FILLED, read_short(2, 0), 0x6A82, [read(0, 0)])
        self.changes_nothing(FILLED, command(0xB0, 0xA1, 0, (), 0), 0x6A86, [read(0, 0)])

    def test_not_bytes(self):
        for made in (make_records(3, 4, 2, 3), make_round(3, 4, 2, 3)):
            for step in (read(0, 0), read(0x7000, 0), read_short(3, 0), write(0, [1]), write_short(3, 0, [1]),
                         command(0xB0), command(0xD6)):
                self.says([make_bytes(1, 9, 1), made], step, 0x6981)
            # It was meant by its short number, so it is chosen.
            self.says([made, make_bytes(1, 9, 1), read_short(3, 0)], read(0, 0), 0x6981)

    def test_taken_away(self):
        self.says(FILLED + [take_away(1)], read(0, 0), 0x6986)
        self.says(FILLED + [take_away(1)], read_short(1, 0), 0x6A82)


class Order(CardCase):
    def test_rights_after_the_kind_and_ahead_of_the_length(self):
        before = self.well(make_bytes(1, 3, 1, (15, 15)), make_records(2, 1, 1, 2, (15, 15)), ACTIVATE)
        self.says(before, read_short(1, 0), 0x6982)
        self.says(before, command(0xB0, 0x81, 99), 0x6982)
        self.says(before, command(0xD6, 0x81, 99), 0x6982)
        self.says(before, read_short(2, 0), 0x6981)
        self.says(before, command(0xD6, 0x82, 99), 0x6981)
        self.says(before + [near(1)], command(0xB0, 0x85, 0), 0x6A82)

    def test_each_needs_its_own_right(self):
        before = self.well(make_bytes(1, 3, 1, (0, 15)), make_bytes(2, 3, 2, (15, 0)), ACTIVATE)
        self.says(before, read_short(1, 0), OK, [0] * 3)
        self.says(before, write_short(1, 0, [1]), 0x6982)
        self.says(before, read_short(2, 0), 0x6982)
        self.says(before, write_short(2, 0, [1]), OK)

    def test_refused_for_want_of_a_right_yet_chosen(self):
        before = self.well(make_bytes(1, 3, 1), make_bytes(2, 4, 2, (15, 0)), ACTIVATE, choose(1))
        self.says(before, read_short(2, 0), 0x6982)
        self.says(before + [read_short(2, 0)], write(3, [1]), OK)
        self.says(before, write(3, [1]), 0x6A84)
