"""All errors of the package: each keeps its fields, any values, in attributes of their names."""


class MirrorError(ValueError):
    """The base of all errors of the package; nothing is made of it alone."""


class BadNumber(MirrorError):
    """A part that is no integer, or not within its bounds."""

    def __init__(self, part):
        self.part = part


class BadPoint(MirrorError):
    """A part that is no point, or no mark, that can stand there."""

    def __init__(self, part):
        self.part = part


class BadRoom(MirrorError):
    """A part that is no room, or that makes none."""

    def __init__(self, part):
        self.part = part


class BadPlace(MirrorError):
    """A part that is no place of a room, or no list of such points as are wanted."""

    def __init__(self, part):
        self.part = part


class BadWay(MirrorError):
    """A part that is no way, or none within its bounds."""

    def __init__(self, part):
        self.part = part


class BadSheet(MirrorError):
    """A part that is no sheet, or that makes none."""

    def __init__(self, part):
        self.part = part


class BadBook(MirrorError):
    """A part that is no book, or that makes none."""

    def __init__(self, part):
        self.part = part


class BadWord(MirrorError):
    """A part that is no word, or no such list of words as is wanted."""

    def __init__(self, part):
        self.part = part


class BadName(MirrorError):
    """A part that cannot be a name."""

    def __init__(self, part):
        self.part = part


class BadPaper(MirrorError):
    """A part that is not what a right paper tells."""

    def __init__(self, part):
        self.part = part


class Misfit(MirrorError):
    """A part that does not fit together with the others."""

    def __init__(self, part):
        self.part = part


class NoName(MirrorError):
    """A name of nothing that is kept."""

    def __init__(self, value):
        self.value = value


class Twice(MirrorError):
    """A value that stands there already."""

    def __init__(self, value):
        self.value = value


class TooMany(MirrorError):
    """There are more of something than most."""

    def __init__(self, what, most):
        self.what = what
        self.most = most


class BadText(MirrorError):
    """The first item of a text that cannot stand there; line is always 0."""

    def __init__(self, line, item):
        self.line = line
        self.item = item


class BadLine(MirrorError):
    """The number of a line, and the error that is raised there."""

    def __init__(self, line, error):
        self.line = line
        self.error = error
