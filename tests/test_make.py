"""E0H, make a file, and E4H, take away: what's wanted, what clashes, inner numbers and room."""

from tests.helper import (
    ACTIVATE, NEW, OK, TOP, CardCase, add_record, by_name, bytes_told, choose, command, field, fields, folder_told, make,
    make_bytes, make_folder, make_records, make_round, near, read, read_record, read_short, records_told, take_away,
    text, two, write)

KIND_FOLDER = field(0x82, 0x38)
KIND_BYTES = field(0x82, 0x01)
KIND_RECORDS = field(0x82, 0x02, 0x21, 0, 4, 3)
NUMBER = field(0x83, 0x12, 0x34)
SIZE = field(0x80, 0, 9)
NAME = field(0x84, 97)
SHORT = field(0x88, 5)
RIGHTS = field(0x8C, 0, 0)
ALLOWED_RIGHTS = (0, 1, 2, 3, 4, 5, 6, 7, 8, 15)
BESIDE = [make_bytes(1, 4, 1), choose(TOP)]


class Wanted(CardCase):
    def refused(self, wanted):
        self.changes_nothing(BESIDE, make(wanted), 0x6A80, [read(0, 0), near(0x1234), near(1, 0, 0), by_name("a")])

    def made(self, wanted, told=None):
        self.well(*BESIDE, make(wanted))
        number = wanted[wanted.index(0x83) + 2:][:2]
        self.says(BESIDE + [make(wanted), choose(TOP)], command(0xA4, 0, 0, number, 0), OK, told or wanted)

    def test_told_right(self):
        self.made(fields(KIND_FOLDER, NUMBER, RIGHTS))
        self.made(fields(KIND_FOLDER, NUMBER, NAME, RIGHTS))
        self.made(fields(KIND_BYTES, NUMBER, SIZE, RIGHTS))
        self.made(fields(KIND_BYTES, NUMBER, SIZE, SHORT, RIGHTS))
        for kind in (0x02, 0x06):
            wanted = field(0x82, kind, 0x21, 0, 4, 3)
            empty = field(0x82, kind, 0x21, 0, 4, 0)
            self.made(fields(wanted, NUMBER, RIGHTS), fields(empty, NUMBER, RIGHTS))
            self.made(fields(wanted, NUMBER, SHORT, RIGHTS), fields(empty, NUMBER, SHORT, RIGHTS))

    def test_the_outer_mark_and_length(self):
        inner = KIND_BYTES + NUMBER + SIZE + RIGHTS
        for mark in (0x00, 0x61, 0x63, 0x6F, 0x82):
            self.refused([mark, len(inner)] + inner)
        self.refused([0x62, len(inner) - 1] + inner)
        self.refused([0x62, len(inner) + 1] + inner)
        self.refused([0x62, len(inner)] + inner + [0])
        self.refused([0x62, 0x81, len(inner)] + inner)
        self.refused(inner)
        self.refused([0x62])
        self.refused([0x62, 0])
        self.refused([0x62, 1, 0x82])
        self.refused([0x62, 2, 0x82, 1])
        self.refused([0x62, len(inner)] + inner + [0x62, 0])

    def test_each_cut_short(self):
        for whole in (fields(KIND_FOLDER, NUMBER, NAME, RIGHTS), fields(KIND_BYTES, NUMBER, SIZE, SHORT, RIGHTS),
                      fields(KIND_RECORDS, NUMBER, SHORT, RIGHTS)):
            inner = whole[2:]
            for length in range(len(inner)):
                self.refused([0x62, length] + inner[:length])
                self.refused([0x62, len(inner)] + inner[:length])

    def test_each_with_something_else(self):
        for parts in ((KIND_FOLDER, NUMBER, NAME, RIGHTS), (KIND_BYTES, NUMBER, SIZE, SHORT, RIGHTS),
                      (KIND_RECORDS, NUMBER, SHORT, RIGHTS)):
            for place in range(len(parts) + 1):
                for more in ([0x81, 0], [0x8A, 1, 5], [0xA5, 2, 0, 0], [0], [0x85, 2, 0, 9]):
                    self.refused(fields(*parts[:place], more, *parts[place:]))
            for place in range(len(parts)):
                self.refused(fields(*parts[:place], parts[place], *parts[place:]))

    def test_what_must_be_there(self):
        for parts in ((KIND_FOLDER, NUMBER, RIGHTS), (KIND_BYTES, NUMBER, SIZE, RIGHTS),
                      (KIND_RECORDS, NUMBER, RIGHTS)):
            for place in range(len(parts)):
                self.refused(fields(*parts[:place], *parts[place + 1:]))

    def test_what_another_kind_has(self):
        self.refused(fields(KIND_FOLDER, NUMBER, SHORT, RIGHTS))
        self.refused(fields(KIND_FOLDER, NUMBER, NAME, SHORT, RIGHTS))
        self.refused(fields(KIND_FOLDER, NUMBER, SIZE, RIGHTS))
        self.refused(fields(KIND_BYTES, NUMBER, SIZE, NAME, RIGHTS))
        self.refused(fields(KIND_RECORDS, NUMBER, SIZE, RIGHTS))
        self.refused(fields(KIND_RECORDS, NUMBER, NAME, RIGHTS))

    def test_order(self):
        for parts in ((KIND_FOLDER, NUMBER, NAME, RIGHTS), (KIND_BYTES, NUMBER, SIZE, SHORT, RIGHTS),
                      (KIND_RECORDS, NUMBER, SHORT, RIGHTS)):
            for place in range(len(parts) - 1):
                self.refused(fields(*parts[:place], parts[place + 1], parts[place], *parts[place + 2:]))
            self.refused(fields(*reversed(parts)))

    def test_kind(self):
        for kind in (0x00, 0x03, 0x04, 0x05, 0x07, 0x39, 0x78, 0xFF):
            self.refused(fields(field(0x82, kind), NUMBER, RIGHTS))
            self.refused(fields(field(0x82, kind), NUMBER, SIZE, RIGHTS))
            self.refused(fields(field(0x82, kind, 0x21, 0, 4, 3), NUMBER, RIGHTS))
        for content in ((), (0x38, 0), (0x38, 0x21), (0x38, 0x21, 0, 4, 3), (0x02,), (0x06,)):
            self.refused(fields(field(0x82, *content), NUMBER, RIGHTS))
        for content in ((), (0x01, 0), (0x01, 0x21), (0x01, 0x21, 0, 4, 3)):
            self.refused(fields(field(0x82, *content), NUMBER, SIZE, RIGHTS))

    def test_kind_of_records(self):
        for kind in (0x02, 0x06):
            for rest in ((), (0x21,), (0x21, 0, 4), (0x21, 4, 3), (0x21, 0, 4, 0, 3), (0x20, 0, 4, 3), (0x41, 0, 4, 3),
                         (0x21, 1, 4, 3), (0x21, 0, 0, 3), (0x21, 0, 4, 0), (0x21, 0, 0, 0)):
                self.refused(fields(field(0x82, kind, *rest), NUMBER, RIGHTS))
            for length, most in ((1, 1), (255, 1), (1, 255), (60, 255), (255, 60)):
                self.well(make(fields(field(0x82, kind, 0x21, 0, length, most), NUMBER, RIGHTS)))

    def test_number(self):
        for content in ((), (1,), (1, 2, 3), (0x3F, 0x00), (0xFF, 0xFF)):
            for kind, more in ((KIND_FOLDER, []), (KIND_BYTES, SIZE), (KIND_RECORDS, [])):
                self.refused(fields(kind, field(0x83, *content), more, RIGHTS))
        for number in (0x0000, 0x0002, 0x3EFF, 0x3F01, 0x3FFF, 0xFFFE, 0xFF00, 0x00FF):
            self.made(fields(KIND_FOLDER, field(0x83, *two(number)), RIGHTS))
            self.made(fields(KIND_BYTES, field(0x83, *two(number)), SIZE, RIGHTS))

    def test_size(self):
        for content in ((), (9,), (0, 0, 9)):
            self.refused(fields(KIND_BYTES, NUMBER, field(0x80, *content), RIGHTS))
        self.made(fields(KIND_BYTES, NUMBER, field(0x80, 0, 0), RIGHTS))
        self.made(fields(KIND_BYTES, NUMBER, field(0x80, 0, 1), RIGHTS))
        self.made(fields(KIND_BYTES, NUMBER, field(0x80, 0x20, 0xFF), RIGHTS))
        # Any two bytes are told right, though there may be no room for so many.
        self.says(BESIDE, make_bytes(2, 0xFFFF), 0x6A84)

    def test_name(self):
        for name in ([], [65] * 17, [65] * 200):
            self.refused(fields(KIND_FOLDER, NUMBER, field(0x84, *name), RIGHTS))
        for name in ([0], [255] * 16, [65] * 2):
            self.made(fields(KIND_FOLDER, NUMBER, field(0x84, *name), RIGHTS))

    def test_short_number(self):
        for content in ((), (0,), (31,), (32,), (255,), (0, 5), (5, 0)):
            self.refused(fields(KIND_BYTES, NUMBER, SIZE, field(0x88, *content), RIGHTS))
            self.refused(fields(KIND_RECORDS, NUMBER, field(0x88, *content), RIGHTS))
        for short in range(2, 31):
            self.made(fields(KIND_BYTES, NUMBER, SIZE, field(0x88, short), RIGHTS))
        self.well(make_bytes(1, 1, 1))

    def test_rights(self):
        for content in ((), (0,), (0, 0, 0)):
            self.refused(fields(KIND_BYTES, NUMBER, SIZE, field(0x8C, *content)))
        for right in list(range(9, 15)) + [16, 255]:
            self.refused(fields(KIND_BYTES, NUMBER, SIZE, field(0x8C, right, 0)))
            self.refused(fields(KIND_FOLDER, NUMBER, field(0x8C, 0, right)))
        for right in ALLOWED_RIGHTS:
            self.made(fields(KIND_BYTES, NUMBER, SIZE, field(0x8C, right, 0)))
            self.made(fields(KIND_FOLDER, NUMBER, field(0x8C, 0, right)))


class Making(CardCase):
    def test_parameters(self):
        for p1, p2 in ((1, 0), (0, 1), (255, 0), (0, 255), (4, 12)):
            self.changes_nothing([], command(0xE0, p1, p2, bytes_told(1, 4)), 0x6A86, [near(1)])
            self.says([], command(0xE0, p1, p2), 0x6A86)

    def test_lengths(self):
        for step in (command(0xE0), command(0xE0, asked=0), command(0xE0, 0, 0, bytes_told(1, 4), 0),
                     command(0xE0, 0, 0, [1], 1)):
            self.changes_nothing([], step, 0x6700, [near(1)])

    def test_number_in_the_folder(self):
        before = self.well(make_bytes(1, 4), make_records(3, 1, 1), make_folder(2))
        for number in (1, 3):
            for step in (make_bytes(number, 4), make_folder(number), make_records(number, 1, 1)):
                self.says(before, step, OK)
                self.changes_nothing(before + [choose(TOP)], step, 0x6A89, [near(number, 0, 0)])
        self.says(before, make_folder(2), OK)
        self.says(before + [choose(TOP)], make_bytes(2, 1), 0x6A89)

    def test_short_number_in_the_folder(self):
        before = self.well(make_bytes(1, 4, 1), make_records(2, 1, 1, 30))
        for short in (1, 30):
            self.changes_nothing(before, make_bytes(3, 4, short), 0x6A89, [near(3), read_short(1, 0)])
            self.says(before, make_records(3, 4, 1, short), 0x6A89)
            self.says(before, make_round(3, 4, 1, short), 0x6A89)
            self.says(before + [make_folder(3)], make_bytes(4, 4, short), OK)
        self.says(before, make_bytes(3, 4, 2), OK)
        self.says(before + [make_bytes(3, 4)], make_bytes(4, 4), OK)

    def test_name_on_the_card(self):
        before = self.well(make_folder(1, "a"), make_folder(2, "b"))
        for path in ((TOP,), (1,), (1, 2)):
            for name in ("a", "b"):
                self.says(before + [choose(*path)], make_folder(3, name), 0x6A89)
            for name in ("c", "A", "aa", "ab", ""):
                self.says(before + [choose(*path)], make_folder(3, name), OK)
        self.says(before + [make_folder(3)], make_folder(4), OK)

    def test_told_wrong_comes_ahead_of_a_clash_and_that_of_room(self):
        before = self.well(make_bytes(1, 16000, 1))
        self.says(before, make_bytes(1, 9000, 31), 0x6A80)
        self.says(before, make_bytes(1, 9000), 0x6A89)
        self.says(before, make_bytes(2, 9000, 1), 0x6A89)
        self.says(before, make_bytes(2, 9000), 0x6A84)

    def test_right(self):
        before = self.well(make_folder(1, "", (15, 0)), make_folder(2, "", (0, 15)), ACTIVATE)
        self.changes_nothing(before + [choose(1)], make_bytes(3, 4), 0x6982, [near(3)])
        self.says(before + [choose(1)], make([1]), 0x6982)
        self.says(before + [choose(1)], command(0xE0), 0x6700)
        self.says(before + [choose(2)], make_bytes(3, 4), OK)
        self.says(before, make_bytes(3, 4), OK)

    def test_a_refusal_leaves_what_is_chosen(self):
        before = self.well(make_bytes(1, 4, 1))
        for step, status in ((make_bytes(1, 9), 0x6A89), (make_bytes(2, 30000), 0x6A84), (make([5]), 0x6A80)):
            self.changes_nothing(before, step, status, [read(0, 0), near(1), near(2)])

    def test_deep(self):
        steps = []
        for number in range(1, 64):
            steps.append(make_folder(number))
        self.well(*steps)


class TakingAway(CardCase):
    def test_each_kind(self):
        for made in (make_bytes(1, 4, 1), make_records(1, 1, 1), make_round(1, 1, 1), make_folder(1, "a")):
            self.says([made, choose(TOP)], take_away(1), OK)
            for step in (near(1), choose(1), by_name("a"), read_short(1, 0), take_away(1)):
                self.says([made, choose(TOP), take_away(1)], step, 0x6A82)

    def test_parameters(self):
        for p1, p2 in ((1, 0), (0, 1), (255, 0), (0, 255)):
            self.changes_nothing(BESIDE, command(0xE4, p1, p2, two(1)), 0x6A86, [near(1)])
            self.says(BESIDE, command(0xE4, p1, p2), 0x6A86)

    def test_lengths(self):
        for step in (command(0xE4), command(0xE4, 0, 0, [0]), command(0xE4, 0, 0, [0, 1, 0]),
                     command(0xE4, 0, 0, two(1), 0), command(0xE4, asked=2)):
            self.changes_nothing(BESIDE, step, 0x6700, [near(1)])

    def test_not_in_the_chosen_folder(self):
        before = self.well(make_folder(1), make_folder(2), make_bytes(3, 4))
        for path, number in (((TOP,), 2), ((TOP,), TOP), ((TOP,), 9), ((1,), 1), ((1,), 3), ((1,), TOP), ((1, 2), 1),
                             ((1, 2), 2), ((1, 2, 3), 2)):
            self.says(before + [choose(*path)], take_away(number), 0x6A82)
        self.says(before, take_away(3), OK)

    def test_a_folder_with_files(self):
        before = self.well(make_folder(1), make_bytes(2, 4), choose(TOP))
        self.changes_nothing(before, take_away(1), 0x6985, [near(1), near(2)])
        self.says(before + [choose(1), take_away(2), choose(TOP)], take_away(1), OK)
        nested = self.well(make_folder(1), make_folder(2), choose(TOP))
        self.says(nested, take_away(1), 0x6985)

    def test_the_chosen_file(self):
        before = self.well(make_bytes(1, 4), make_bytes(2, 5))
        self.says(before + [take_away(2)], read(0, 0), 0x6986)
        self.says(before + [take_away(1)], read(0, 0), OK, [0] * 5)
        self.says(before + [take_away(2)], near(1), OK)
        # A later file in its place is not chosen through it.
        self.says(before + [take_away(2), make_folder(3), choose(TOP)], read(0, 0), 0x6986)

    def test_right(self):
        before = self.well(make_folder(1, "", (15, 0)), make_bytes(3, 4), choose(TOP), make_folder(2, "", (0, 15)),
                           make_bytes(3, 4, 0, (15, 15)), ACTIVATE)
        self.changes_nothing(before + [choose(1)], take_away(3), 0x6982, [near(3)])
        self.says(before + [choose(1)], take_away(9), 0x6982)
        self.says(before + [choose(1)], command(0xE4), 0x6700)
        self.says(before + [choose(2)], take_away(3), OK)
        self.says(before + [choose(2)], take_away(9), 0x6A82)
        # Above a folder, that one's own rights don't count.
        self.says(before + [choose(1), choose(TOP)], take_away(1), 0x6985)

    def test_made_anew(self):
        before = self.well(make_bytes(1, 4, 1), write(0, NEW[:4]), take_away(1), make_bytes(1, 4, 1))
        self.says(before, read(0, 0), OK, [0] * 4)
        before = self.well(make_records(1, 2, 2), add_record([1, 1]), take_away(1), make_records(1, 2, 2))
        self.says(before, read_record(1), 0x6A83)
        before = self.well(make_folder(1, "a"), choose(TOP), take_away(1), make_folder(2, "a"))
        self.says(before, by_name("a", 0, 0), OK, folder_told(2, "a"))


class InnerNumbers(CardCase):
    def full(self):
        return [make_bytes(number, 1) for number in range(1, 64)]

    def test_64_files(self):
        before = self.well(*self.full())
        self.changes_nothing(before, make_bytes(64, 0), 0x6A84, [near(64), near(63, 0, 0)])
        self.says(before, make_folder(64), 0x6A84)
        self.says(before[:-1], make_bytes(64, 0), OK)

    def test_64_files_in_many_folders(self):
        before = []
        for number in range(1, 22):
            before += [choose(TOP), make_folder(number), make_bytes(1, 1), make_folder(2)]
        self.well(*before)
        self.says(before, make_bytes(1, 1), 0x6A84)
        self.says(before + [choose(TOP)], make_bytes(99, 1), 0x6A84)

    def test_one_that_is_free_again(self):
        for number in (1, 30, 63):
            before = self.well(*self.full(), take_away(number), make_bytes(100, 7))
            self.says(before, read(0, 0), OK, [0] * 7)
            self.says(before, near(number), 0x6A82)
            self.says(before, make_bytes(101, 0), 0x6A84)
            for other in range(1, 64):
                if other != number:
                    self.says(before, near(other, 0, 0), OK, bytes_told(other, 1))

    def test_a_folder_in_a_free_place(self):
        before = self.well(make_folder(1), make_folder(2), make_bytes(3, 4), choose(1, 2), take_away(3), choose(1),
                           take_away(2), choose(TOP), take_away(1), make_bytes(4, 1), make_folder(5),
                           make_bytes(6, 6), choose(TOP))
        self.says(before, choose(5, 6, p2=0, asked=0), OK, bytes_told(6, 6))
        self.says(before, near(6), 0x6A82)
        self.says(before, near(4, 0, 0), OK, bytes_told(4, 1))
        self.says(before, choose(4, 6), 0x6A82)

    def test_several_taken_away(self):
        before = self.well(*self.full(), *[take_away(number) for number in range(63, 0, -7)],
                           *[make_folder(number + 500) for number in range(9)])
        self.says(before, make_folder(9), 0x6A84)
        self.says(before, choose(*[number + 500 for number in range(9)], p2=0, asked=0), OK, folder_told(508))


class Room(CardCase):
    # The top folder takes 32 bytes, so 16352 are left at first.
    def test_bytes(self):
        self.says([], make_bytes(1, 16320), OK)
        self.changes_nothing([], make_bytes(1, 16321), 0x6A84, [near(1)])

    def test_all_of_it_can_be_used(self):
        before = self.well(make_bytes(1, 16320), write(16319, [5]))
        self.says(before, read(16319, 1), OK, [5])
        self.says(before, read(16320, 1), 0x6282)
        self.says(before, read(16321, 1), 0x6B00)
        self.says(before, write(16320, [5]), 0x6A84)

    def test_several(self):
        before = self.well(make_bytes(1, 10000), make_folder(2, "abc"), make_records(3, 10, 20))
        # 32 + 10032 + 35 + 232 are taken, so 6053 are left.
        self.says(before, make_bytes(4, 6021), OK)
        self.says(before, make_bytes(4, 6022), 0x6A84)
        self.says(before, make_round(4, 60, 100), OK)
        self.says(before + [make_bytes(4, 6021)], make_bytes(5, 0), 0x6A84)

    def test_folders(self):
        before = self.well(make_bytes(1, 16320 - 48))
        self.says(before, make_folder(2, "sixteen signs..."), OK)
        self.says(before + [make_folder(2, "sixteen signs...")], make_folder(3), 0x6A84)
        before = self.well(make_bytes(1, 16320 - 47))
        self.says(before, make_folder(2, "sixteen signs..."), 0x6A84)
        self.says(before, make_folder(2, "fifteen signs.."), OK)
        self.says(before, make_folder(2), OK)
        before = self.well(make_bytes(1, 16320 - 31))
        self.says(before, make_folder(2), 0x6A84)

    def test_records_take_the_most_there_may_be(self):
        for made in (make_records, make_round):
            before = self.well(make_bytes(1, 16320 - 32 - 77))
            self.says(before, made(2, 7, 11), OK)
            self.says(before, made(2, 11, 7), OK)
            self.says(before, made(2, 78, 1), 0x6A84)
            self.says(before, made(2, 1, 78), 0x6A84)
            full = before + [made(2, 77, 1)]
            self.says(self.well(*full), add_record([1] * 77), OK)
            self.says(full + [add_record([1] * 77)], make_folder(3), 0x6A84)

    def test_a_short_number_takes_none(self):
        self.says([], make_bytes(1, 16320, 1), OK)
        self.says([], make_bytes(1, 16321, 1), 0x6A84)

    def test_given_back(self):
        before = self.well(make_bytes(1, 16000), make_bytes(2, 288))
        self.says(before, make_folder(3), 0x6A84)
        self.says(before + [take_away(2)], make_bytes(3, 288), OK)
        self.says(before + [take_away(2)], make_bytes(3, 289), 0x6A84)
        self.says(before + [take_away(1)], make_bytes(3, 16000), OK)
        self.says(before + [take_away(1)], make_bytes(3, 16001), 0x6A84)

    def test_in_all_folders_together(self):
        before = self.well(make_folder(1), make_bytes(2, 8000), choose(TOP), make_folder(3))
        # 32 + 32 + 8032 + 32 are taken, so 8256 are left.
        self.says(before, make_bytes(2, 8224), OK)
        self.says(before, make_bytes(2, 8225), 0x6A84)

    def test_the_largest_records(self):
        self.says([], make_records(1, 255, 63), OK)
        self.says([], make_records(1, 255, 64), OK)
        self.says([], make_records(1, 255, 65), 0x6A84)
        self.says([], make_records(1, 64, 255), OK)
        self.says([], make_records(1, 255, 255), 0x6A84)


class Names(CardCase):
    def test_text_of_a_name(self):
        before = self.well(make(folder_told(1, "abc")), choose(TOP))
        self.says(before, command(0xA4, 4, 0, text("abc"), 0), OK, folder_told(1, "abc"))
        self.says(before, near(1, 0, 0), OK, folder_told(1, "abc"))
        self.says([make(records_told(1, 4, 3))], near(1, 0, 0), OK, records_told(1, 4, 0))
