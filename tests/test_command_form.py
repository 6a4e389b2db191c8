"""The form of a command, its class and its instruction."""

from tests.helper import NEW, OK, TOP, CardCase, command, make_bytes, two

INSTRUCTIONS = (0xA4, 0xB0, 0xD6, 0xB2, 0xDC, 0xE2, 0x20, 0x24, 0x2C, 0xDA, 0xE0, 0xE4, 0x44)


class Form(CardCase):
    def test_fewer_than_four_bytes(self):
        for given in ([], [0], [0, 0xA4], [0, 0x44, 0], [9], [9, 9, 9]):
            self.says([], given, 0x6700)

    def test_header_alone(self):
        self.says([], [0, 0x44, 0, 0], OK)

    def test_header_and_how_much_is_asked(self):
        before = self.well(make_bytes(1, 9))
        self.says(before, [0, 0xB0, 0, 0, 5], OK, [0] * 5)
        self.says(before, [0, 0xB0, 0, 0, 0], OK, [0] * 9)
        self.says(before, [0, 0xB0, 0, 0, 255], 0x6282, [0] * 9)

    def test_asked_of_nought_is_256(self):
        before = self.well(make_bytes(1, 300))
        self.says(before, [0, 0xB0, 0, 0, 0], OK, [0] * 256)
        self.says(before, [0, 0xB0, 0, 0, 255], OK, [0] * 255)

    def test_data(self):
        self.says([], [0, 0xA4, 0, 0x0C, 2, 0x3F, 0], OK)

    def test_data_and_how_much_is_asked(self):
        told = [0x62, 11, 0x82, 1, 0x38, 0x83, 2, 0x3F, 0, 0x8C, 2, 0, 0]
        self.says([], [0, 0xA4, 0, 0, 2, 0x3F, 0, 13], OK, told)
        self.says([], [0, 0xA4, 0, 0, 2, 0x3F, 0, 0], OK, told)

    def test_longest_data(self):
        before = self.well(make_bytes(1, 255))
        self.says(before, [0, 0xD6, 0, 0, 255] + [7] * 255, OK)
        # 261 bytes: of an allowed form, but nothing may be asked here.
        self.says(before, [0, 0xD6, 0, 0, 255] + [7] * 255 + [0], 0x6700)
        self.says([], [0, 0xFF, 0, 0, 255] + [7] * 255 + [0], 0x6D00)

    def test_lengths_that_do_not_fit(self):
        for behind in ([0, 0], [0, 1], [0, 0, 0], [1, 5, 5, 5], [2, 0x3F], [3, 1, 1], [2, 0x3F, 0, 0, 0], [255, 1],
                       [255] + [1] * 254, [254] + [1] * 256, [0] + [1] * 256):
            self.says([], [0, 0xA4, 0, 0x0C] + behind, 0x6700)

    def test_form_comes_before_class_and_instruction(self):
        self.says([], [0x80, 0xFF, 0, 0, 0, 0], 0x6700)
        self.says([], [0x80, 0xA4, 0], 0x6700)

    def test_class(self):
        for group in (1, 2, 0x0C, 0x10, 0x7F, 0x80, 0xFF):
            self.says([], command(0xA4, 0, 0x0C, two(TOP), group=group), 0x6E00)
            self.says([], command(0xFF, group=group), 0x6E00)

    def test_instruction(self):
        for instruction in range(256):
            if instruction not in INSTRUCTIONS:
                self.says([], command(instruction), 0x6D00)
                self.says([], command(instruction, 255, 255, NEW, 0), 0x6D00)

    def test_instructions_that_are_known(self):
        for instruction in INSTRUCTIONS:
            self.says([], command(instruction, 0xFF, 0xFF), 0x6A86)
