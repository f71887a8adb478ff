"""The errors of the package: each derives directly from PieceError (0.3)."""


class PieceError(ValueError):
    """What was passed is not what the document asks for."""


class BadLibrary(PieceError):
    """What was passed is no texts of a library; part tells which of them is none, or how they fail."""

    def __init__(self, part):
        self.part = part


class NoWord(PieceError):
    """What was passed is no word."""

    def __init__(self):
        super().__init__()


class NoPlace(PieceError):
    """What was passed is no place of the library."""

    def __init__(self):
        super().__init__()


class NoEdit(PieceError):
    """What was passed is no edit of the library."""

    def __init__(self):
        super().__init__()


class BadEdits(PieceError):
    """What was passed is no edits one behind the other; index tells the first that is none then."""

    def __init__(self, index):
        self.index = index


class NoNames(PieceError):
    """What was passed is no names of blocks."""

    def __init__(self):
        super().__init__()


class NoText(PieceError):
    """What was passed is no text."""

    def __init__(self):
        super().__init__()


class NoLevel(PieceError):
    """What was passed is no level of the text."""

    def __init__(self):
        super().__init__()


class NoNumber(PieceError):
    """What was passed is no number within the bounds."""

    def __init__(self):
        super().__init__()


class NothingDone(PieceError):
    """There is nothing to take back, or to do again."""

    def __init__(self):
        super().__init__()


class NoRow(PieceError):
    """What was passed is the row of no library."""

    def __init__(self):
        super().__init__()


class NoSign(PieceError):
    """What was passed is no word of one sign."""

    def __init__(self):
        super().__init__()


class NoClass(PieceError):
    """What was passed is the number of no class."""

    def __init__(self):
        super().__init__()


class BadWeb(PieceError):
    """What was passed is no rows of a web; index tells the first that is none."""

    def __init__(self, index):
        self.index = index


class NoMachine(PieceError):
    """What was passed is no machine."""

    def __init__(self):
        super().__init__()


class TooMany(PieceError):
    """There are more than most."""

    def __init__(self, most):
        self.most = most


class NoState(PieceError):
    """What was passed is the number of no state."""

    def __init__(self):
        super().__init__()


class NoSigns(PieceError):
    """What was passed is no ascending string of a few unlike signs."""

    def __init__(self):
        super().__init__()


class NoPhrases(PieceError):
    """What was passed is no phrases; index tells the first that is none."""

    def __init__(self, index):
        self.index = index


class NoPattern(PieceError):
    """What was passed is no pattern."""

    def __init__(self):
        super().__init__()


class BadPattern(PieceError):
    """What was passed is no text of a pattern; place tells where it fails."""

    def __init__(self, place):
        self.place = place


class NoGaps(PieceError):
    """What was passed is a pattern with gaps."""

    def __init__(self):
        super().__init__()


class NoHoles(PieceError):
    """What was passed is no indexes of a word."""

    def __init__(self):
        super().__init__()


class NoLine(PieceError):
    """What was passed is no line."""

    def __init__(self):
        super().__init__()


class NoCut(PieceError):
    """What was passed tells no cut of the disk."""

    def __init__(self):
        super().__init__()


class NoLines(PieceError):
    """What was passed is no lines."""

    def __init__(self):
        super().__init__()


class NoDisk(PieceError):
    """What was passed is no disk that fits."""

    def __init__(self):
        super().__init__()


class NoAsk(PieceError):
    """What was passed asks nothing."""

    def __init__(self):
        super().__init__()


class NoName(PieceError):
    """Nothing is kept under the name."""

    def __init__(self, name):
        self.name = name
