"""20H, 24H, 2CH, DAH: telling, changing, freeing and making a secret."""

from tests.helper import (
    ACTIVATE, NEW, OK, RESET, WRONG, CardCase, change, command, free, freer_of, how_is, make_secret, secret_of, tell)

ONE = [make_secret(1)]
LOCKED = ONE + [tell(1, WRONG)] * 3
FREER_GONE = ONE + [free(1, WRONG, NEW)] * 2


class Telling(CardCase):
    def test_right(self):
        self.says(ONE, tell(1), OK)
        self.says(ONE + [tell(1)], how_is(1), OK)
        self.says(ONE + [tell(1)], tell(1), OK)

    def test_how_many_are_left(self):
        self.says(ONE, how_is(1), 0x63C3)
        self.says(ONE + [how_is(1)], how_is(1), 0x63C3)
        for tries in range(1, 16):
            self.says([make_secret(4, tries)], how_is(4), 0x63C0 + tries)

    def test_wrong(self):
        self.goes((ONE[0], OK), (tell(1, WRONG), 0x63C2), (how_is(1), 0x63C2), (tell(1, WRONG), 0x63C1),
                  (how_is(1), 0x63C1), (tell(1, WRONG), 0x63C0), (how_is(1), 0x6983), (tell(1, WRONG), 0x6983),
                  (tell(1), 0x6983), (how_is(1), 0x6983))

    def test_every_byte_counts(self):
        for place in range(8):
            nearly = secret_of(1)
            nearly[place] += 1
            self.says(ONE, tell(1, nearly), 0x63C2)
        self.says(ONE, tell(1, freer_of(1)), 0x63C2)

    def test_right_gives_all_tries_back(self):
        self.goes((ONE[0], OK), (tell(1, WRONG), 0x63C2), (tell(1, WRONG), 0x63C1), (tell(1), OK),
                  (tell(1, WRONG), 0x63C2))

    def test_wrong_ends_that_it_was_told(self):
        self.says(ONE + [tell(1), tell(1, WRONG)], how_is(1), 0x63C2)

    def test_fifteen_tries(self):
        before = [make_secret(2, 15)]
        for left in range(14, -1, -1):
            self.says(before, tell(2, WRONG), 0x63C0 + left)
            before = before + [tell(2, WRONG)]
        self.says(before, tell(2), 0x6983)

    def test_each_for_itself(self):
        before = self.well(make_secret(1), make_secret(8, 5), tell(8))
        self.says(before, how_is(1), 0x63C3)
        self.says(before, how_is(8), OK)
        self.says(before, tell(1, secret_of(8)), 0x63C2)
        self.says(before + [tell(1, WRONG)], how_is(8), OK)
        self.says(before + [tell(8, WRONG)], how_is(8), 0x63C4)
        self.says(before + [tell(8, WRONG)], how_is(1), 0x63C3)

    def test_none_there(self):
        for which in range(1, 9):
            self.says([], how_is(which), 0x6A88)
            self.says([], tell(which), 0x6A88)
            if which > 1:
                self.says(ONE, tell(which), 0x6A88)


class Changing(CardCase):
    def test_right(self):
        before = self.well(*ONE, change(1, secret_of(1), NEW))
        self.says(before, tell(1, NEW), OK)
        self.says(before, tell(1), 0x63C2)

    def test_it_is_not_told(self):
        self.says(ONE + [tell(1), change(1, secret_of(1), NEW)], how_is(1), 0x63C3)
        self.says(ONE + [change(1, secret_of(1), NEW)], how_is(1), 0x63C3)

    def test_all_tries(self):
        self.says(ONE + [tell(1, WRONG), tell(1, WRONG), change(1, secret_of(1), NEW)], how_is(1), 0x63C3)

    def test_wrong(self):
        self.goes((ONE[0], OK), (tell(1), OK), (change(1, WRONG, NEW), 0x63C2), (how_is(1), 0x63C2),
                  (change(1, NEW, secret_of(1)), 0x63C1), (tell(1, NEW), 0x63C0), (how_is(1), 0x6983))
        self.says(ONE + [change(1, WRONG, NEW)], tell(1), OK)
        self.goes((ONE[0], OK), (change(1, WRONG, NEW), 0x63C2), (change(1, WRONG, NEW), 0x63C1),
                  (change(1, WRONG, NEW), 0x63C0), (change(1, WRONG, NEW), 0x6983),
                  (change(1, secret_of(1), NEW), 0x6983), (tell(1), 0x6983))

    def test_no_tries_left(self):
        self.says(LOCKED, change(1, secret_of(1), NEW), 0x6983)
        self.says(LOCKED, change(1, WRONG, NEW), 0x6983)

    def test_none_there(self):
        self.says(ONE, change(2, secret_of(2), NEW), 0x6A88)

    def test_to_the_same(self):
        self.says(ONE + [change(1, secret_of(1), secret_of(1))], tell(1), OK)


class Freeing(CardCase):
    def test_right(self):
        before = LOCKED + [free(1, freer_of(1), NEW)]
        self.says(LOCKED, free(1, freer_of(1), NEW), OK)
        self.says(before, how_is(1), 0x63C3)
        self.says(before, tell(1, NEW), OK)
        self.says(before, tell(1), 0x63C2)

    def test_though_it_needs_no_freeing(self):
        before = self.well(*ONE, tell(1), free(1, freer_of(1), NEW))
        self.says(before, how_is(1), 0x63C3)
        self.says(before, tell(1, NEW), OK)

    def test_what_frees_stays(self):
        self.says(ONE + [free(1, freer_of(1), NEW)], free(1, freer_of(1), WRONG), OK)
        self.says(ONE + [change(1, secret_of(1), NEW)], free(1, freer_of(1), WRONG), OK)

    def test_wrong(self):
        self.goes((ONE[0], OK), (free(1, WRONG, NEW), 0x63C1), (how_is(1), 0x63C3), (free(1, secret_of(1), NEW), 0x63C0),
                  (how_is(1), 0x63C3), (tell(1), OK), (free(1, freer_of(1), NEW), 0x6983), (how_is(1), OK))

    def test_wrong_leaves_that_it_was_told(self):
        self.says(ONE + [tell(1), free(1, WRONG, NEW)], how_is(1), OK)

    def test_no_tries_left(self):
        self.says(FREER_GONE, free(1, freer_of(1), NEW), 0x6983)
        self.says(FREER_GONE, free(1, WRONG, NEW), 0x6983)
        self.says(FREER_GONE, tell(1), OK)
        self.says(FREER_GONE, change(1, secret_of(1), NEW), OK)

    def test_fifteen_tries(self):
        before = [make_secret(2, 1, 15)]
        for left in range(14, -1, -1):
            self.says(before, free(2, WRONG, NEW), 0x63C0 + left)
            before = before + [free(2, WRONG, NEW)]
        self.says(before, free(2, freer_of(2), NEW), 0x6983)

    def test_right_leaves_its_tries(self):
        # Freeing does as changing does: the tries of the secret come back, those of what frees it do not.
        before = ONE + [free(1, WRONG, NEW), free(1, freer_of(1), NEW)]
        self.says(before, free(1, WRONG, NEW), 0x63C0)

    def test_none_there(self):
        self.says(ONE, free(2, freer_of(2), NEW), 0x6A88)


class Making(CardCase):
    def test_each(self):
        before = self.well(*[make_secret(which, which, 16 - which) for which in range(1, 9)])
        for which in range(1, 9):
            self.says(before, how_is(which), 0x63C0 + which)
            self.says(before, tell(which), OK)
            self.says(before, free(which, freer_of(which), NEW), OK)
            self.says(before, free(which, WRONG, NEW), 0x63C0 + 15 - which)

    def test_tries(self):
        for tries, freer_tries in ((0, 1), (1, 0), (16, 1), (1, 16), (255, 15), (15, 255), (0, 0)):
            self.changes_nothing(ONE, make_secret(1, tries, freer_tries), 0x6A80, [how_is(1), free(1, WRONG, NEW)])
        for tries, freer_tries in ((1, 1), (15, 15), (1, 15), (15, 1)):
            self.says(ONE, make_secret(1, tries, freer_tries), OK)

    def test_lengths(self):
        for length in (0, 1, 8, 16, 17, 19, 255):
            self.says([], command(0xDA, 1, 1, [3] * length), 0x6700)
            self.says([ACTIVATE], command(0xDA, 1, 1, [3] * length), 0x6700)
        self.says([], command(0xDA, 1, 1, [3] * 18), OK)
        self.says([], command(0xDA, 1, 1, [3] * 18, 0), 0x6700)
        self.says([], command(0xDA, 1, 1, (), 18), 0x6700)

    def test_active(self):
        self.changes_nothing(ONE + [ACTIVATE], make_secret(1, 5, 5), 0x6985, [how_is(1), tell(1)])
        self.says([ACTIVATE], make_secret(1), 0x6985)
        # That it is active comes ahead of the tries.
        self.says([ACTIVATE], make_secret(1, 0, 0), 0x6985)

    def test_replaced(self):
        other = command(0xDA, 1, 1, NEW + WRONG + [7, 9])
        before = LOCKED + [free(1, WRONG, NEW), other]
        self.says(before, how_is(1), 0x63C7)
        self.says(before, tell(1), 0x63C6)
        self.says(before, tell(1, NEW), OK)
        self.says(before, free(1, freer_of(1), NEW), 0x63C8)
        self.says(before, free(1, WRONG, NEW), OK)

    def test_told_before_stays_told(self):
        other = command(0xDA, 1, 1, NEW + WRONG + [7, 9])
        self.says(ONE + [tell(1), other], how_is(1), OK)
        self.says(ONE + [tell(1), other, RESET], how_is(1), 0x63C7)
        self.says(ONE + [tell(1), other], tell(1), 0x63C6)
        self.says([make_secret(2), tell(2)] + [other], how_is(1), 0x63C7)


class Parameters(CardCase):
    def test_which(self):
        steps = ((0x20, 0, 8), (0x24, 0, 16), (0x2C, 0, 16), (0xDA, 1, 18))
        for instruction, right, length in steps:
            for p2 in [0] + list(range(9, 256)):
                self.says(ONE, command(instruction, right, p2, [3] * length), 0x6A86)
                self.says(ONE, command(instruction, right, p2, [3]), 0x6A86)
            for p1 in range(256):
                if p1 != right:
                    self.says(ONE, command(instruction, p1, 1, [3] * length), 0x6A86)
                    self.says(ONE + [ACTIVATE], command(instruction, p1, 1), 0x6A86)

    def test_lengths(self):
        for instruction, rights in ((0x20, (0, 8)), (0x24, (16,)), (0x2C, (16,))):
            for length in (0, 1, 7, 8, 9, 15, 16, 17, 18, 255):
                if length not in rights:
                    self.changes_nothing(ONE, command(instruction, 0, 1, [1] * length), 0x6700, [how_is(1)])
                    # The length comes ahead of whether there is one.
                    self.says(ONE, command(instruction, 0, 2, [1] * length), 0x6700)
                    self.says(LOCKED, command(instruction, 0, 1, [1] * length), 0x6700)
            for length in (0, 8, 16):
                self.changes_nothing(ONE, command(instruction, 0, 1, [1] * length, 0), 0x6700, [how_is(1)])
