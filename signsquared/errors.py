"""The errors that the modules of this package raise."""


class SignError(ValueError):
    """The base of all errors of this package."""


class InvalidSquare(SignError):
    """Raised for what is no square."""


class InvalidSides(SignError):
    """Raised for what is no number of sides."""


class InvalidOrder(SignError):
    """Raised for what is no order."""


class InvalidNumber(SignError):
    """Raised for what is no such number."""


class InvalidColumn(SignError):
    """Raised for what is no column."""


class InvalidPoint(SignError):
    """Raised for what is no such point."""


class InvalidHeights(SignError):
    """Raised for what is no heights of a square."""


class InvalidTriangle(SignError):
    """Raised for what is no triangle of a square."""


class InvalidOrders(SignError):
    """Raised for what is no tuple of orders."""


class InvalidIce(SignError):
    """Raised for what is no ice of a square."""


class InvalidSorts(SignError):
    """Raised for what is no sorts of a square."""


class InvalidRoads(SignError):
    """Raised for what is no such roads."""


class InvalidWeights(SignError):
    """Raised for what is no ice weights."""


class InvalidLines(SignError):
    """Raised for what is no such line numbers."""


class InvalidLoops(SignError):
    """Raised for what is no full loops."""


class InvalidEnd(SignError):
    """Raised for what is no end of full loops."""


class InvalidFace(SignError):
    """Raised for what is no such face."""


class InvalidTies(SignError):
    """Raised for what is no ties."""


class InvalidPlace(SignError):
    """Raised for what is no place of a ring."""


class InvalidWord(SignError):
    """Raised for what is no such word."""


class InvalidPairs(SignError):
    """Raised for what is no pairs of ties."""


class InvalidSize(SignError):
    """Raised for what is no size of a floor."""


class InvalidLaying(SignError):
    """Raised for what is no laying of a floor."""


class InvalidCouple(SignError):
    """Raised for two squares that do not fit."""


class InvalidCell(SignError):
    """Raised for what is no such cell."""


class InvalidSigns(SignError):
    """Raised for what is no such signs."""


class InvalidTable(SignError):
    """Raised for what is no table."""


class InvalidBox(SignError):
    """Raised for what is no box."""


class InvalidPile(SignError):
    """Raised for what is no such pile."""


class InvalidCubes(SignError):
    """Raised for what is no cubes of a pile."""


class InvalidSpot(SignError):
    """Raised for what is no such spot."""


class InvalidIndex(SignError):
    """Raised for what is no such index."""


class InvalidPoints(SignError):
    """Raised for what is no such points."""


class InvalidTiles(SignError):
    """Raised for what is no tiles of a pile."""


class InvalidHalf(SignError):
    """Raised for what is no half."""


class InvalidCorner(SignError):
    """Raised for what is no corner of a full pile."""


class InvalidPrime(SignError):
    """Raised for what is no such prime."""


class InvalidFacts(SignError):
    """Raised for what is no facts."""


class InvalidBounds(SignError):
    """Raised for what is no bounds."""


class InvalidMove(SignError):
    """Raised for what is no such move."""


class InvalidLot(SignError):
    """Raised for what is no such lot of moves."""


class InvalidNotes(SignError):
    """Raised for what is no notes."""


class InvalidShare(SignError):
    """Raised for what is no share."""


class InvalidState(SignError):
    """Raised for what is no state."""


class InvalidStep(SignError):
    """Raised for what is no step."""


class InvalidScript(SignError):
    """Raised for what is no script."""


class InvalidText(SignError):
    """Raised for what is no such text."""


class NothingToUndo(SignError):
    """Raised for a bench without a call that can be taken back."""


class NothingToRedo(SignError):
    """Raised for a bench without a call that can be done again."""


class Unlike(SignError):
    """Raised for two things that must be as large as one another, and are not."""


class TooMany(SignError):
    """Raised for more than a limit allows."""

    def __init__(self, limit):
        super().__init__(f"more than {limit}")
        self.limit = limit
