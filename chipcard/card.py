"""What a card holds: its files, its secrets, and what is chosen."""

from chipcard.files import FOLDER, NO_SHORT, File, room_of

MOST_FILES = 64
MOST_ROOM = 16384
TOP = 0
TOP_NUMBER = 0x3F00
NONE = -1
ALWAYS = 0


class Secret:
    """A secret, what frees it, and how often each may still be told wrong."""

    def __init__(self, word, freer, tries, freer_tries):
        self.word = word
        self.freer = freer
        self.most_tries = tries
        self.tries = tries
        self.freer_tries = freer_tries
        self.told = False


class Card:
    """Files lie at their inner numbers; `folder` and `file` are the inner numbers of what is chosen."""

    def __init__(self):
        self.slots = [File(FOLDER, TOP_NUMBER)] + [None] * (MOST_FILES - 1)
        self.secrets = {}
        self.active = False
        self.folder = TOP
        self.file = NONE

    def begin_anew(self):
        for secret in self.secrets.values():
            secret.told = False
        self.folder = TOP
        self.file = NONE

    def chosen_file(self):
        return self.slots[self.file]

    def chosen_folder(self):
        return self.slots[self.folder]

    def choose_inner(self, inner):
        found = self.slots[inner]
        if found.kind == FOLDER:
            self.folder = inner
            self.file = NONE
        else:
            self.folder = found.folder
            self.file = inner

    def allows(self, right):
        if not self.active or right == ALWAYS:
            return True
        return right in self.secrets and self.secrets[right].told

    def inside(self, folder):
        """The inner numbers of a folder's files."""
        found = []
        for inner, file in enumerate(self.slots):
            if file is not None and file.folder == folder:
                found.append(inner)
        return found

    def find_number(self, folder, number):
        for inner in self.inside(folder):
            if self.slots[inner].number == number:
                return inner
        return NONE

    def find_short(self, short):
        """The file of the chosen folder with this short number."""
        for inner in self.inside(self.folder):
            if self.slots[inner].short == short:
                return inner
        return NONE

    def find_name(self, name):
        for inner, file in enumerate(self.slots):
            if file is not None and len(file.name) > 0 and file.name == name:
                return inner
        return NONE

    def clashes(self, file):
        """Whether the file can't be told from one of the chosen folder, or from a name of the card."""
        if self.find_number(self.folder, file.number) != NONE or self.find_name(file.name) != NONE:
            return True
        return file.short != NO_SHORT and self.find_short(file.short) != NONE

    def free_inner(self):
        for inner, file in enumerate(self.slots):
            if file is None:
                return inner
        return NONE

    def has_room_for(self, file):
        room = room_of(file)
        for other in self.slots:
            if other is not None:
                room = room + room_of(other)
        return room <= MOST_ROOM and self.free_inner() != NONE

    def put_in(self, file):
        inner = self.free_inner()
        file.folder = self.folder
        file.content = [0] * file.size
        self.slots[inner] = file
        self.choose_inner(inner)

    def take_out(self, inner):
        self.slots[inner] = None
        if self.file == inner:
            self.file = NONE
