"""Rights, and 44H, activate."""

from tests.helper import (
    ACTIVATE, NEW, OK, RESET, TOP, WRONG, CardCase, add_record, change, choose, command, free, freer_of, how_is,
    make_bytes, make_folder, make_records, make_secret, near, read, read_record, read_short, secret_of, take_away, tell,
    write, write_record, write_short)

SECRETS = [make_secret(which) for which in range(1, 9)]


class BeforeItIsActive(CardCase):
    def test_every_right_holds(self):
        for right in (0, 1, 8, 15):
            self.well(make_bytes(1, 4, 1, (right, right)), write(0, [1]), read(0, 0))
            self.well(make_records(1, 1, 2, 1, (right, right)), add_record([1]), write_record(1, [2]), read_record(1))
            self.well(make_folder(1, "", (right, right)), make_bytes(2, 4), take_away(2))

    def test_after_a_reset_too(self):
        self.well(make_bytes(1, 4, 1, (15, 15)), RESET, read_short(1, 0), write(0, [1]))


class Active(CardCase):
    def test_always(self):
        before = self.well(make_bytes(1, 4, 1), make_folder(2), ACTIVATE)
        self.says(before, read_short(1, 0), OK, [0] * 4)
        self.says(before, write_short(1, 0, [1]), OK)
        self.says(before, make_bytes(3, 4), OK)
        self.says(before, take_away(1), OK)

    def test_never(self):
        before = self.well(*SECRETS, make_bytes(1, 4, 1, (15, 15)), make_folder(2, "", (15, 15)), ACTIVATE,
                           *[tell(which) for which in range(1, 9)])
        self.says(before, read_short(1, 0), 0x6982)
        self.says(before, write_short(1, 0, [1]), 0x6982)
        self.says(before + [choose(2)], make_bytes(3, 4), 0x6982)

    def test_each_secret(self):
        for right in range(1, 9):
            before = self.well(*SECRETS, make_bytes(1, 4, 1, (right, 0)), make_bytes(2, 4, 2, (0, right)),
                               make_folder(3, "", (right, 0)), make_bytes(4, 1), ACTIVATE)
            for steps, told in (([read_short(1, 0)], [0] * 4), ([write_short(2, 0, [1])], []),
                                ([choose(3), make_bytes(5, 4)], []), ([choose(3), take_away(4)], [])):
                self.says(before + steps[:-1], steps[-1], 0x6982)
                self.says(before + [tell(right)] + steps[:-1], steps[-1], OK, told)
                others = [tell(which) for which in range(1, 9) if which != right]
                self.says(before + others + steps[:-1], steps[-1], 0x6982)

    def test_a_secret_that_is_not_there(self):
        before = self.well(make_secret(1), make_bytes(1, 4, 1, (2, 0)), ACTIVATE, tell(1))
        self.says(before, read_short(1, 0), 0x6982)

    def test_told_before_a_reset(self):
        before = self.well(make_secret(3), make_bytes(1, 4, 1, (3, 0)), ACTIVATE, tell(3), read_short(1, 0), RESET)
        self.says(before, read_short(1, 0), 0x6982)
        self.says(before + [tell(3)], read_short(1, 0), OK, [0] * 4)

    def test_told_before_it_was_active(self):
        before = self.well(make_secret(3), make_bytes(1, 4, 1, (3, 0)), tell(3), ACTIVATE)
        self.says(before, read_short(1, 0), 0x6982)
        self.says(before, how_is(3), 0x63C3)

    def test_what_ends_that_it_was_told(self):
        before = self.well(make_secret(3), make_bytes(1, 4, 1, (3, 0)), ACTIVATE, tell(3))
        for step in (tell(3, WRONG), change(3, WRONG, NEW), change(3, secret_of(3), NEW), free(3, freer_of(3), NEW)):
            self.says(before + [step], read_short(1, 0), 0x6982)
        for step in (tell(3), how_is(3), free(3, WRONG, NEW), choose(TOP), command(0x20, 0, 3, [1]),
                     make_bytes(2, 4)):
            self.says(before + [step], read_short(1, 0), OK, [0] * 4)

    def test_choosing_needs_none(self):
        before = self.well(make_folder(1, "", (15, 15)), make_bytes(2, 4, 1, (15, 15)), ACTIVATE)
        self.says(before, choose(1), OK)
        self.says(before, choose(1, 2), OK)
        self.says(before + [choose(1)], near(2), OK)

    def test_the_chosen_folder_counts_for_making(self):
        before = self.well(make_folder(1, "", (15, 0)), make_folder(2, "", (0, 0)), ACTIVATE)
        self.says(before + [choose(1, 2)], make_bytes(3, 4), OK)
        self.says(before + [choose(1)], make_bytes(3, 4), 0x6982)


class Activating(CardCase):
    def test_once(self):
        self.goes((ACTIVATE, OK), (ACTIVATE, 0x6985), (RESET, 0), (ACTIVATE, 0x6985))

    def test_parameters(self):
        for p1, p2 in ((1, 0), (0, 1), (255, 255)):
            self.changes_nothing([], command(0x44, p1, p2), 0x6A86, [ACTIVATE])
            self.says([ACTIVATE], command(0x44, p1, p2), 0x6A86)
            self.says([], command(0x44, p1, p2, [1]), 0x6A86)

    def test_lengths(self):
        for step in (command(0x44, 0, 0, [1]), command(0x44, asked=0), command(0x44, 0, 0, [1], 1)):
            self.changes_nothing([], step, 0x6700, [ACTIVATE])
            self.says([ACTIVATE], step, 0x6700)

    def test_top_is_chosen_and_no_file(self):
        before = self.well(make_folder(1), make_bytes(2, 4, 1), ACTIVATE)
        self.says(before, read(0, 0), 0x6986)
        self.says(before, read_short(1, 0), 0x6A82)
        self.says(before, near(1), OK)
        self.says(before, near(2), 0x6A82)

    def test_refused_it_leaves_what_is_chosen_and_told(self):
        before = self.well(make_secret(1), make_folder(1), make_bytes(2, 4, 1), ACTIVATE, choose(1, 2), tell(1))
        self.changes_nothing(before, ACTIVATE, 0x6985, [read(0, 0), near(2), how_is(1)])

    def test_secrets_and_their_tries_stay(self):
        before = self.well(make_secret(1), make_secret(2)) + [tell(1, WRONG), free(2, WRONG, NEW), ACTIVATE]
        self.says(before, how_is(1), 0x63C2)
        self.says(before, how_is(2), 0x63C3)
        self.says(before, free(2, WRONG, NEW), 0x63C0)
        self.says(before, tell(1), OK)

    def test_secrets_are_still_changed_and_freed(self):
        before = self.well(make_secret(1), ACTIVATE)
        self.says(before, change(1, secret_of(1), NEW), OK)
        self.says(before, free(1, freer_of(1), NEW), OK)
