"""The exceptions of the package."""


class SquaremarkError(ValueError):
    """The base class of all exceptions of the package."""


class InvalidSymbol(SquaremarkError):
    """An argument is not a symbol, or a divisor is 0."""


class InvalidBlock(SquaremarkError):
    """The data or the received block, or the number of check symbols, is invalid."""


class BlockDecodable(SquaremarkError):
    """A block is close, so there is no certificate."""


class InvalidCertificate(SquaremarkError):
    """The entry at `index` does not have the required form."""

    def __init__(self, index):
        self.index = index


class InvalidMessage(SquaremarkError):
    """The character at `index` is invalid."""

    def __init__(self, index):
        self.index = index


class InvalidSymbols(SquaremarkError):
    """The symbols are not a valid encoding, as `index` shows."""

    def __init__(self, index):
        self.index = index


class InvalidStrength(SquaremarkError):
    """The strength of a label is not 1, 2 or 3."""


class InvalidSide(SquaremarkError):
    """The side is not the side of a label."""


class MessageTooLong(SquaremarkError):
    """No plan has enough capacity for the message."""


class InvalidImage(SquaremarkError):
    """The cell at `row` and `column` of an image is invalid."""

    def __init__(self, row, column):
        self.row = row
        self.column = column


class DecodeFailed(SquaremarkError):
    """The block with the index `block` cannot be decoded; -1 is the header."""

    def __init__(self, block):
        self.block = block


class PartialMessage(SquaremarkError):
    """The label does not hold a whole message."""


class FrameNotFound(SquaremarkError):
    """Two orientations of an image tie for the fewest frame errors."""


class InvalidCount(SquaremarkError):
    """A list is empty or of another kind, or a size or a value is out of range."""


class InvalidView(SquaremarkError):
    """The view at `index` cannot be used."""

    def __init__(self, index):
        self.index = index


class MismatchedPart(SquaremarkError):
    """The label at `index` does not belong to the others."""

    def __init__(self, index):
        self.index = index


class MissingParts(SquaremarkError):
    """The message lacks `parts`, an ascending tuple."""

    def __init__(self, parts):
        self.parts = parts


class InvalidSheet(SquaremarkError):
    """The cell at `row` and `column` of a sheet is invalid."""

    def __init__(self, row, column):
        self.row = row
        self.column = column


class InvalidPlacement(SquaremarkError):
    """The item at `index` cannot be placed."""

    def __init__(self, index):
        self.index = index


class UnknownPart(SquaremarkError):
    """There is no view of the part."""


class InvalidOperation(SquaremarkError):
    """The operation at `index` is invalid."""

    def __init__(self, index):
        self.index = index


class InvalidName(SquaremarkError):
    """A name does not consist of one to eight letters a to z."""


class UnknownCheckpoint(SquaremarkError):
    """No state is stored under the name."""


class ScriptError(SquaremarkError):
    """The line `row` of a script is invalid."""

    def __init__(self, row):
        self.row = row


class ExecutionFailed(SquaremarkError):
    """The statement in line `row` of a script cannot be executed."""

    def __init__(self, row):
        self.row = row


class StepLimitExceeded(SquaremarkError):
    """A script takes too many steps."""


class InvalidEncoding(SquaremarkError):
    """The byte at `offset` of an encoding is invalid or missing."""

    def __init__(self, offset):
        self.offset = offset
