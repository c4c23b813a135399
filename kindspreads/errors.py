"""The errors of the package: a class for each kind of failure."""


class SpreadError(ValueError):
    """What all errors of the package are derived from."""


class InvalidTable(SpreadError):
    """Raised for what has to be a plus table or a times table of a Kinds or a world, and is not."""

    def __init__(self, value=None):
        self.value = value


class InvalidKinds(SpreadError):
    """Raised for what has to be a Kinds, or the row of kinds of a shape, and is not."""

    def __init__(self, value=None):
        self.value = value


class InvalidKind(SpreadError):
    """Raised for what has to be a kind, and is not."""

    def __init__(self, value=None):
        self.value = value


class InvalidMap(SpreadError):
    """Raised for what has to be a map, or new names, and is not."""

    def __init__(self, value=None):
        self.value = value


class InvalidTriples(SpreadError):
    """Raised for what has to be triples of a rule, or one of them, and is not."""

    def __init__(self, value=None):
        self.value = value


class InvalidRule(SpreadError):
    """Raised for what has to be a rule, and is not."""

    def __init__(self, value=None):
        self.value = value


class InvalidThings(SpreadError):
    """Raised for what has to be things with their kinds, and is not."""

    def __init__(self, value=None):
        self.value = value


class InvalidBook(SpreadError):
    """Raised for what has to be a book, and is not."""

    def __init__(self, value=None):
        self.value = value


class InvalidTerm(SpreadError):
    """Raised for what has to be a term of a book, and is not."""

    def __init__(self, value=None):
        self.value = value


class InvalidTerms(SpreadError):
    """Raised for what has to be a list of terms, or a row of kinds, and is not."""

    def __init__(self, value=None):
        self.value = value


class InvalidWord(SpreadError):
    """Raised for what has to be one of the words that a function names, and is not."""

    def __init__(self, value=None):
        self.value = value


class InvalidCount(SpreadError):
    """Raised for what has to be a count, perhaps within bounds, and is not."""

    def __init__(self, value=None):
        self.value = value


class InvalidPrices(SpreadError):
    """Raised for what has to be prices, and is not."""

    def __init__(self, value=None):
        self.value = value


class InvalidHolding(SpreadError):
    """Raised for what has to be the lists of a world, and is not."""

    def __init__(self, value=None):
        self.value = value


class InvalidWorld(SpreadError):
    """Raised for what has to be a world, or one that fits, and is not."""

    def __init__(self, value=None):
        self.value = value


class InvalidInputs(SpreadError):
    """Raised for what has to be inputs, and is not."""

    def __init__(self, value=None):
        self.value = value


class InvalidLines(SpreadError):
    """Raised for what has to be the lines of a program, and is not."""

    def __init__(self, value=None):
        self.value = value


class InvalidProgram(SpreadError):
    """Raised for what has to be a program, and is not."""

    def __init__(self, value=None):
        self.value = value


class InvalidFolding(SpreadError):
    """Raised for what has to be a folding, and is not."""

    def __init__(self, value=None):
        self.value = value


class InvalidBench(SpreadError):
    """Raised for what has to be a bench, and is not."""

    def __init__(self, value=None):
        self.value = value


class InvalidSpot(SpreadError):
    """Raised for what has to be a spot of a bench, and is not."""

    def __init__(self, value=None):
        self.value = value


class InvalidScript(SpreadError):
    """Raised for what has to be a script, and is not."""

    def __init__(self, value=None):
        self.value = value


class InvalidText(SpreadError):
    """Raised for what has to be a text that a writer makes, and is not."""

    def __init__(self, value=None):
        self.value = value


class InvalidRecord(SpreadError):
    """Raised for what has to be a record of a bench, and is not."""

    def __init__(self, value=None):
        self.value = value


class Unlike(SpreadError):
    """Raised for what has to be of the same Kinds, or the same things, as an elder one, and is not."""

    def __init__(self, value=None):
        self.value = value


class Unsettled(SpreadError):
    """Raised for what has to be a settled rule, or a book of one, and is not."""

    def __init__(self, value=None):
        self.value = value


class Apart(SpreadError):
    """Raised for what has to be kin with an elder term, and is not."""

    def __init__(self, value=None):
        self.value = value


class Refused(SpreadError):
    """Raised for what has to be something that can be done as it stands, and is not."""

    def __init__(self, value=None):
        self.value = value


class NothingToUndo(SpreadError):
    """Raised where there is no command to take back."""


class NothingToRedo(SpreadError):
    """Raised where there is no command to make again."""
