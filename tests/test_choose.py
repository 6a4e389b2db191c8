"""A4H, choose, and what is said of a file."""

from tests.helper import (
    OK, TOP, CardCase, add_record, bytes_told, by_name, choose, command, folder_told, make_bytes, make_folder,
    make_records, make_round, near, read, records_told, take_away, text, two)

TREE = [
    make_folder(0x1000, "one"), make_folder(0x1100, "two"), make_bytes(0x1110, 3, 30), choose(TOP),
    make_folder(0x2000), make_bytes(0x1000, 5), choose(TOP), make_bytes(0x0001, 4, 1),
]


class ByNumber(CardCase):
    def test_the_tree_is_made(self):
        self.well(*TREE)

    def test_top_from_everywhere(self):
        for path in ((0x1000,), (0x1000, 0x1100), (0x1000, 0x1100, 0x1110), (0x2000,), (0x0001,)):
            self.says(TREE + [choose(*path)], near(TOP, 0, 0), OK, folder_told(TOP))

    def test_file_of_the_chosen_folder(self):
        before = TREE + [choose(TOP)]
        self.says(before, near(0x0001, 0, 0), OK, bytes_told(1, 4, 1))
        self.says(before, near(0x1000, 0, 0), OK, folder_told(0x1000, "one"))
        self.says(before, near(0x2000, 0, 0), OK, folder_told(0x2000))
        self.says(TREE + [choose(0x1000)], near(0x1100, 0, 0), OK, folder_told(0x1100, "two"))

    def test_beside_a_chosen_file(self):
        before = TREE + [choose(TOP), near(0x0001)]
        self.says(before, near(0x0001, 0, 0), OK, bytes_told(1, 4, 1))
        self.says(before, near(0x2000, 0, 0), OK, folder_told(0x2000))

    def test_folder_that_the_chosen_one_is_in(self):
        before = TREE + [choose(0x1000, 0x1100)]
        self.says(before, near(0x1000, 0, 0), OK, folder_told(0x1000, "one"))
        # From there on its own files are near.
        self.says(before + [near(0x1000)], near(0x1100, 0, 0), OK, folder_told(0x1100, "two"))

    def test_folder_around_from_a_chosen_file(self):
        before = TREE + [choose(0x1000, 0x1100, 0x1110)]
        self.says(before, near(0x1000, 0, 0), OK, folder_told(0x1000, "one"))

    def test_own_file_comes_before_the_folder_around(self):
        before = self.well(make_folder(5), make_folder(6), make_bytes(5, 7), choose(5, 6))
        self.says(before, near(5, 0, 0), OK, bytes_told(5, 7))

    def test_not_there(self):
        for number in (0x0002, 0x1100, 0x1110, 0xFFFF, 0x0000, 0x3F01, 0x0010):
            self.says(TREE + [choose(TOP)], near(number), 0x6A82)
        # Neither the chosen folder itself, nor one two folders up, nor one beside it, nor one two folders down.
        self.says(TREE + [choose(0x1000)], near(0x1000), 0x6A82)
        self.says(TREE + [choose(0x1000)], near(0x2000), 0x6A82)
        self.says(TREE + [choose(0x1000)], near(0x1110), 0x6A82)
        deep = self.well(make_folder(7), make_folder(8), make_folder(9))
        self.says(deep, near(7), 0x6A82)
        self.says(deep, near(8), OK)

    def test_lengths(self):
        self.says([], command(0xA4, 0, 0x0C), 0x6700)
        self.says([], command(0xA4, 0, 0x0C, asked=0), 0x6700)
        self.says([], command(0xA4, 0, 0x0C, [0x3F]), 0x6700)
        self.says([], command(0xA4, 0, 0x0C, [0x3F, 0, 0]), 0x6700)


class ByName(CardCase):
    def test_from_everywhere(self):
        for path in ((TOP,), (0x2000,), (0x1000, 0x1100, 0x1110)):
            self.says(TREE + [choose(*path)], by_name("two", 0, 0), OK, folder_told(0x1100, "two"))
            self.says(TREE + [choose(*path)], by_name("one", 0, 0), OK, folder_told(0x1000, "one"))

    def test_the_whole_name_alone(self):
        for name in ("tw", "twoo", "Two", "t", "o", "three", "sixteen signs..."):
            self.says(TREE, by_name(name), 0x6A82)

    def test_a_card_without_names(self):
        self.says([], by_name("one"), 0x6A82)

    def test_lengths(self):
        self.says([], command(0xA4, 4, 0x0C), 0x6700)
        self.says([], command(0xA4, 4, 0x0C, [65] * 17), 0x6700)
        self.says([], command(0xA4, 4, 0x0C, [65] * 16), 0x6A82)
        before = self.well(make_folder(1, "a"), make_folder(2, "sixteen signs..."), choose(TOP))
        self.says(before, by_name("a", 0, 0), OK, folder_told(1, "a"))
        self.says(before, by_name("sixteen signs...", 0, 0), OK, folder_told(2, "sixteen signs..."))

    def test_a_name_of_noughts(self):
        before = self.well(command(0xE0, 0, 0, [0x62, 14, 0x82, 1, 0x38, 0x83, 2, 0, 1, 0x84, 1, 0, 0x8C, 2, 0, 0]))
        self.says(before, command(0xA4, 4, 0x0C, [0]), OK)
        self.says(before, command(0xA4, 4, 0x0C, [0, 0]), 0x6A82)


class ByPath(CardCase):
    def test_from_everywhere(self):
        for path in ((TOP,), (0x2000,), (0x1000, 0x1100, 0x1110)):
            before = TREE + [choose(*path)]
            self.says(before, choose(0x1000, p2=0, asked=0), OK, folder_told(0x1000, "one"))
            self.says(before, choose(0x1000, 0x1100, p2=0, asked=0), OK, folder_told(0x1100, "two"))
            self.says(before, choose(0x1000, 0x1100, 0x1110, p2=0, asked=0), OK, bytes_told(0x1110, 3, 30))
            self.says(before, choose(0x2000, 0x1000, p2=0, asked=0), OK, bytes_told(0x1000, 5))
            self.says(before, choose(1, p2=0, asked=0), OK, bytes_told(1, 4, 1))

    def test_not_there(self):
        for path in ((2,), (0x1100,), (0x1000, 0x1110), (0x1000, 0x1100, 0x1111), (1, 1), (0x2000, 0x1000, 0x1000),
                     (0x1000, 0x1000), (0x1000, 0x1100, 0x1000)):
            self.says(TREE, choose(*path), 0x6A82)

    def test_top_is_no_part_of_a_path(self):
        self.says(TREE, command(0xA4, 8, 0x0C, two(TOP)), 0x6A82)
        self.says(TREE, command(0xA4, 8, 0x0C, two(TOP) + two(0x1000)), 0x6A82)
        self.says(TREE, command(0xA4, 8, 0x0C, two(0x1000) + two(TOP)), 0x6A82)
        self.says(TREE, command(0xA4, 8, 0x0C, two(0x0009) + two(TOP)), 0x6A82)

    def test_lengths(self):
        self.says(TREE, command(0xA4, 8, 0x0C), 0x6700)
        self.says(TREE, command(0xA4, 8, 0x0C, [0x10]), 0x6700)
        self.says(TREE, command(0xA4, 8, 0x0C, [0x10, 0, 0x11]), 0x6700)
        self.says(TREE, command(0xA4, 8, 0x0C, [0x10] * 255), 0x6700)
        self.says(TREE, command(0xA4, 8, 0x0C, [0x10] * 254), 0x6A82)

    def test_a_path_through_all_files(self):
        numbers = list(range(1, 64))
        before = self.well(*[make_folder(number) for number in numbers], choose(TOP))
        self.says(before, choose(*numbers, p2=0, asked=0), OK, folder_told(63))
        self.says(before, choose(*numbers, 64), 0x6A82)


class Parameters(CardCase):
    def test_first(self):
        for p1 in range(256):
            if p1 not in (0, 4, 8):
                self.says([], command(0xA4, p1, 0x0C, two(TOP)), 0x6A86)
                self.says([], command(0xA4, p1, 0), 0x6A86)

    def test_second(self):
        for p2 in range(256):
            if p2 not in (0, 0x0C):
                self.says([], command(0xA4, 0, p2, two(TOP)), 0x6A86)

    def test_second_comes_before_a_length(self):
        for p1 in (0, 4, 8):
            self.says([], command(0xA4, p1, 4), 0x6A86)
            self.says([], command(0xA4, p1, 0), 0x6700)


class Said(CardCase):
    def told(self, before, status, told, asked=0):
        self.says(self.well(*before), near(told[7] * 256 + told[8], 0, asked), status, told)

    def test_folder(self):
        self.says([make_folder(0x1234, "", (3, 15)), choose(TOP)], near(0x1234, 0, 0), OK,
                  [0x62, 11, 0x82, 1, 0x38, 0x83, 2, 0x12, 0x34, 0x8C, 2, 3, 15])

    def test_folder_with_a_name(self):
        self.says([make_folder(0x1234, "ab", (8, 1)), choose(TOP)], near(0x1234, 0, 0), OK,
                  [0x62, 15, 0x82, 1, 0x38, 0x83, 2, 0x12, 0x34, 0x84, 2, 97, 98, 0x8C, 2, 8, 1])

    def test_bytes(self):
        self.says([make_bytes(0xABCD, 0x0203, 0, (0, 7))], near(0xABCD, 0, 0), OK,
                  [0x62, 15, 0x82, 1, 1, 0x83, 2, 0xAB, 0xCD, 0x80, 2, 2, 3, 0x8C, 2, 0, 7])

    def test_bytes_with_a_short_number(self):
        self.says([make_bytes(0xABCD, 0, 30, (15, 0))], near(0xABCD, 0, 0), OK,
                  [0x62, 18, 0x82, 1, 1, 0x83, 2, 0xAB, 0xCD, 0x80, 2, 0, 0, 0x88, 1, 30, 0x8C, 2, 15, 0])

    def test_records_tell_how_many_there_are(self):
        told = [0x62, 15, 0x82, 5, 2, 0x21, 0, 4, 0, 0x83, 2, 0, 9, 0x8C, 2, 1, 2]
        before = [make_records(9, 4, 2, 0, (1, 2))]
        for many in range(3):
            told[8] = many
            self.says(before, near(9, 0, 0), OK, told)
            before = before + [add_record([many] * 4)]

    def test_records_with_a_short_number(self):
        self.says([make_records(9, 255, 3, 1)], near(9, 0, 0), OK,
                  [0x62, 18, 0x82, 5, 2, 0x21, 0, 255, 0, 0x83, 2, 0, 9, 0x88, 1, 1, 0x8C, 2, 0, 0])

    def test_records_that_go_round(self):
        told = [0x62, 18, 0x82, 5, 6, 0x21, 0, 1, 0, 0x83, 2, 0, 9, 0x88, 1, 7, 0x8C, 2, 0, 0]
        before = [make_round(9, 1, 2, 7)]
        for many in (0, 1, 2, 2, 2):
            told[8] = many
            self.says(before, near(9, 0, 0), OK, told)
            before = before + [add_record([many])]
        self.says([make_round(9, 1, 2)], near(9, 0, 0), OK, records_told(9, 1, 0, kind=6))

    def test_top(self):
        self.says([], near(TOP, 0, 0), OK, [0x62, 11, 0x82, 1, 0x38, 0x83, 2, 0x3F, 0, 0x8C, 2, 0, 0])

    def test_nothing_told(self):
        self.says([], near(TOP, 0), OK)
        self.says([], near(TOP, 0x0C), OK)
        self.says([], near(TOP, 0x0C, 0), OK)
        self.says([], near(TOP, 0x0C, 1), OK)

    def test_as_much_as_asked(self):
        self.says([], near(TOP, 0, 13), OK, folder_told(TOP))
        self.says([], near(TOP, 0, 14), OK, folder_told(TOP))
        self.says([], near(TOP, 0, 255), OK, folder_told(TOP))
        self.says([], near(TOP, 0, 12), 0x6C0D)
        self.says([], near(TOP, 0, 1), 0x6C0D)
        long_name = "sixteen signs..."
        before = [make_folder(1, long_name), choose(TOP)]
        self.says(before, near(1, 0, 30), 0x6C1F)
        self.says(before, by_name(long_name, 0, 30), 0x6C1F)
        self.says(before, choose(1, p2=0, asked=30), 0x6C1F)
        self.says(before, near(1, 0, 31), OK, folder_told(1, long_name))

    def test_too_little_asked_chooses_nothing(self):
        before = self.well(make_bytes(1, 4, 1), make_folder(2), choose(1))
        self.changes_nothing(before, near(2, 0, 5), 0x6C0D, [read(0, 4), near(1, 0, 0)])
        before = self.well(make_bytes(1, 4, 1), make_bytes(2, 6), choose(1))
        self.changes_nothing(before, choose(2, p2=0, asked=16), 0x6C11, [read(0, 0)])


class WhatIsChosen(CardCase):
    def test_a_file_and_its_folder(self):
        before = TREE + [choose(0x1000, 0x1100, 0x1110)]
        self.says(before, read(0, 0), OK, [0] * 3)
        self.says(before, take_away(0x1110), OK)
        self.says(before, near(0x1110), OK)

    def test_a_folder_and_no_file(self):
        for step in (choose(TOP), near(0x2000), by_name("one"), choose(0x2000), near(TOP)):
            self.says(TREE + [choose(TOP), near(1), step], read(0, 0), 0x6986)

    def test_not_there_leaves_what_is_chosen(self):
        before = TREE + [choose(TOP), near(1)]
        for step in (near(2), by_name("none"), choose(0x1000, 0x1000), choose(0x1000, 9)):
            self.changes_nothing(before, step, 0x6A82, [read(0, 0), near(0x1000)])
        for step in (command(0xA4, 0, 0x0C, text("abc")), command(0xA4, 8, 0x0C, [0x10])):
            self.changes_nothing(before, step, 0x6700, [read(0, 0), near(0x1000)])

    def test_what_is_made_is_chosen(self):
        self.says([make_bytes(1, 2)], read(0, 0), OK, [0, 0])
        self.says([make_bytes(1, 2), make_folder(2)], read(0, 0), 0x6986)
        self.says([make_folder(2), make_bytes(1, 2)], choose(2, 1), OK)
        self.says([make_bytes(3, 2), make_bytes(1, 5)], near(3), OK)
