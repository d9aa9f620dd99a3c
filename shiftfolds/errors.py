"""The errors of the package: each one holds the argument that it was raised for."""


class FoldError(ValueError):
    """Any error of the package."""


class InvalidValue(FoldError):
    """An argument that has to be a value, or a list of them, and is none."""

    def __init__(self, value=None):
        self.value = value


class InvalidOperation(FoldError):
    """An argument that has to be an operation, or its table, and is none."""

    def __init__(self, value=None):
        self.value = value


class InvalidLikeness(FoldError):
    """An argument that has to be a likeness, or pairs of values, and is none."""

    def __init__(self, value=None):
        self.value = value


class InvalidKind(FoldError):
    """An argument that has to be a kind, perhaps one of a typing, and is none."""

    def __init__(self, value=None):
        self.value = value


class InvalidTable(FoldError):
    """An argument that has to be the table of a Kinds and is none."""

    def __init__(self, value=None):
        self.value = value


class InvalidKinds(FoldError):
    """An argument that has to be a Kinds and is none."""

    def __init__(self, value=None):
        self.value = value


class InvalidHolding(FoldError):
    """An argument that has to be the holding of a typing and is none."""

    def __init__(self, value=None):
        self.value = value


class InvalidTyping(FoldError):
    """An argument that has to be a typing and is none."""

    def __init__(self, value=None):
        self.value = value


class InvalidFolding(FoldError):
    """An argument that has to be a folding and is none."""

    def __init__(self, value=None):
        self.value = value


class InvalidMap(FoldError):
    """An argument that has to be a map, or new names, and is none."""

    def __init__(self, value=None):
        self.value = value


class InvalidTriples(FoldError):
    """An argument that has to be triples, or right ones, and is none."""

    def __init__(self, value=None):
        self.value = value


class InvalidBase(FoldError):
    """An argument that has to be a base and is none."""

    def __init__(self, value=None):
        self.value = value


class InvalidWord(FoldError):
    """An argument that has to be "right" or "left" and is not."""

    def __init__(self, value=None):
        self.value = value


class InvalidRow(FoldError):
    """An argument that has to be a row and is none."""

    def __init__(self, value=None):
        self.value = value


class InvalidGrouping(FoldError):
    """An argument that has to be a grouping and is none."""

    def __init__(self, value=None):
        self.value = value


class InvalidBlock(FoldError):
    """An argument that has to be a block and is none."""

    def __init__(self, value=None):
        self.value = value


class InvalidBlocks(FoldError):
    """An argument that has to be blocks of which no two overlap and is none."""

    def __init__(self, value=None):
        self.value = value


class InvalidCut(FoldError):
    """An argument that has to be a cut and is none."""

    def __init__(self, value=None):
        self.value = value


class InvalidDeed(FoldError):
    """An argument that has to be a deed and is none, or does not fit."""

    def __init__(self, value=None):
        self.value = value


class InvalidInputs(FoldError):
    """An argument that has to be inputs and is none."""

    def __init__(self, value=None):
        self.value = value


class InvalidPrices(FoldError):
    """An argument that has to be prices and is none."""

    def __init__(self, value=None):
        self.value = value


class InvalidWeights(FoldError):
    """An argument that has to be weights and is none."""

    def __init__(self, value=None):
        self.value = value


class InvalidHands(FoldError):
    """An argument that has to be a number of hands and is none."""

    def __init__(self, value=None):
        self.value = value


class InvalidLosses(FoldError):
    """An argument that has to be losses and is none."""

    def __init__(self, value=None):
        self.value = value


class InvalidCount(FoldError):
    """An argument that has to be a count, perhaps within bounds that the point tells, and is none."""

    def __init__(self, value=None):
        self.value = value


class InvalidProgram(FoldError):
    """An argument that has to be a program and is none."""

    def __init__(self, value=None):
        self.value = value


class InvalidName(FoldError):
    """An argument that has to be a name of a program and is none."""

    def __init__(self, value=None):
        self.value = value


class InvalidPlan(FoldError):
    """An argument that has to be a plan and is none."""

    def __init__(self, value=None):
        self.value = value


class InvalidChange(FoldError):
    """A change that does not fit."""

    def __init__(self, value=None):
        self.value = value


class InvalidChanges(FoldError):
    """An argument that has to be a list of changes and is none."""

    def __init__(self, value=None):
        self.value = value


class InvalidWorks(FoldError):
    """An argument that has to be a works and is none."""

    def __init__(self, value=None):
        self.value = value


class InvalidSpot(FoldError):
    """An argument that has to be a spot of a works and is none."""

    def __init__(self, value=None):
        self.value = value


class InvalidScript(FoldError):
    """An argument that has to be a script and is none."""

    def __init__(self, value=None):
        self.value = value


class InvalidText(FoldError):
    """An argument that has to be a text that a writer makes and is none."""

    def __init__(self, value=None):
        self.value = value


class InvalidLog(FoldError):
    """An argument that has to be a log and is none."""

    def __init__(self, value=None):
        self.value = value


class Unlike(FoldError):
    """An argument that has to belong to the same typing as an elder one and does not."""

    def __init__(self, value=None):
        self.value = value


class Unsettled(FoldError):
    """Triples that have to be settled and are not."""

    def __init__(self, value=None):
        self.value = value


class Apart(FoldError):
    """A grouping that has to be joined with an elder one and is not."""

    def __init__(self, value=None):
        self.value = value


class Refused(FoldError):
    """A command, or changes, that cannot be taken."""

    def __init__(self, value=None):
        self.value = value


class NothingToUndo(FoldError):
    """There is no command to take back."""


class NothingToRedo(FoldError):
    """There is no command to make again."""
