"""The errors of the package."""


class StoreError(ValueError):
    """The base of all errors of the package."""

    def told(self):
        return "refused storeerror"


class BadCount(StoreError):
    """A number of things is too small or too large."""

    def __init__(self, what, count):
        self.what = what
        self.count = count

    def told(self):
        return "refused badcount"


class NoLine(StoreError):
    """The memory has no such line."""

    def __init__(self, line):
        self.line = line

    def told(self):
        return "refused noline"


class NoWord(StoreError):
    """The line has no such word."""

    def __init__(self, word):
        self.word = word

    def told(self):
        return "refused noword"


class NoTime(StoreError):
    """The program has no such time."""

    def __init__(self, time):
        self.time = time

    def told(self):
        return "refused notime"


class NoImage(StoreError):
    """The numbers are no image of the program."""

    def told(self):
        return "refused noimage"


class NoPlace(StoreError):
    """No possible image has this place."""

    def __init__(self, place):
        self.place = place

    def told(self):
        return "refused noplace"


class OtherStores(StoreError):
    """Two programs do not have the same memory and stores."""

    def told(self):
        return "refused otherstores"


class NoStore(StoreError):
    """The program has no store of this number."""

    def __init__(self, store):
        self.store = store

    def told(self):
        return "refused nostore"


class OtherMemory(StoreError):
    """Two things are not of the same memory."""

    def told(self):
        return "refused othermemory"


class Wide(StoreError):
    """A program has too many possible images."""

    def __init__(self, count):
        self.count = count

    def told(self):
        return "refused wide"


class NoName(StoreError):
    """A name is not a valid one."""

    def __init__(self, name):
        self.name = name

    def told(self):
        return "refused noname"


class NoRule(StoreError):
    """No rule has this name."""

    def __init__(self, name):
        self.name = name

    def told(self):
        return "refused norule"


class Empty(StoreError):
    """There is no command to take."""

    def told(self):
        return "refused empty"


class NoBack(StoreError):
    """There is no change to undo."""

    def told(self):
        return "refused noback"


class BadText(StoreError):
    """A part of a text is malformed."""

    def __init__(self, place):
        self.place = place

    def told(self):
        return "refused badtext"
