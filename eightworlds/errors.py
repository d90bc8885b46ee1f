"""The errors of the package."""


class WorldError(ValueError):
    """What is wrong with a call of this package."""


class InvalidCutting(WorldError):
    """A value is no cutting."""


class InvalidCorner(WorldError):
    """A value is no corner that fits."""


class InvalidCorners(WorldError):
    """Values are no corners that fit."""


class InvalidCut(WorldError):
    """A value is no cut that fits."""


class InvalidCuts(WorldError):
    """Values are no cuts that fit."""


class InvalidSides(WorldError):
    """A value is no number of sides that fits."""


class InvalidSide(WorldError):
    """A value is no side of the polygon."""


class InvalidNumber(WorldError):
    """A value is no integer within its bounds."""


class InvalidPrime(WorldError):
    """A value is no prime within its bounds."""


class InvalidIndex(WorldError):
    """A value is no index that fits."""


class InvalidText(WorldError):
    """A value is no text of the asked form."""


class InvalidRow(WorldError):
    """A value is no row."""


class InvalidPlace(WorldError):
    """A value is no place that fits."""


class InvalidFrieze(WorldError):
    """A value is the frieze of no cutting."""


class InvalidFacts(WorldError):
    """A value is no tuple of facts."""


class InvalidValues(WorldError):
    """A value is no values of the cutting."""


class InvalidRoad(WorldError):
    """A value is no road."""


class InvalidMark(WorldError):
    """Values are no marks that are near."""


class InvalidFraction(WorldError):
    """A value is no fraction within its bounds."""


class InvalidChain(WorldError):
    """A value is no chain within its bounds."""


class InvalidThreefold(WorldError):
    """A value is no threefold cutting."""


class InvalidSign(WorldError):
    """A value is neither 1 nor -1."""


class InvalidWorths(WorldError):
    """A value is no weights of plates."""


class InvalidLoose(WorldError):
    """A value is no loose cutting."""


class Crossing(WorldError):
    """A cut crosses another one."""


class Unlike(WorldError):
    """Two values do not go together."""


class InvalidCounts(WorldError):
    """A value is no plate counts."""


class InvalidLine(WorldError):
    """A value is no line of the cutting."""


class InvalidPairing(WorldError):
    """A value is no pairing of the snake."""


class InvalidShape(WorldError):
    """A value is no shape."""


class InvalidLengths(WorldError):
    """A value is no lengths of the cutting."""


class InvalidTile(WorldError):
    """A value is no index of a tile that fits."""


class InvalidLot(WorldError):
    """A value is the lot of no pairing."""


class InvalidSum(WorldError):
    """A value is no sum of the cutting."""


class InvalidWay(WorldError):
    """A value is no way from the cutting."""


class InvalidTree(WorldError):
    """A value is no tree."""


class InvalidFork(WorldError):
    """A value is no number of a fork that fits."""


class InvalidReaches(WorldError):
    """A value is the reaches of no tree."""


class InvalidMountain(WorldError):
    """A value is the mountain of no tree."""


class InvalidHeights(WorldError):
    """A value is the heights of no tree."""


class InvalidVotes(WorldError):
    """A value is no votes."""


class InvalidParting(WorldError):
    """A value is no parting."""


class InvalidPoints(WorldError):
    """A value is no number of points that fits."""


class InvalidBlocks(WorldError):
    """A value is no sizes of blocks that fit."""


class InvalidSwaps(WorldError):
    """A value is no great swaps."""


class InvalidStair(WorldError):
    """A value is no stair."""


class InvalidParking(WorldError):
    """A value is no parking."""


class InvalidField(WorldError):
    """A value is no field of the cutting."""


class InvalidShare(WorldError):
    """A value is no share."""


class InvalidState(WorldError):
    """A value is no state."""


class InvalidStep(WorldError):
    """A value is no step."""


class InvalidScript(WorldError):
    """A value is no script."""


class NoEar(WorldError):
    """A corner cannot be taken away."""


class Held(WorldError):
    """The line or the seat has the corner."""


class InvalidTie(WorldError):
    """A value is no tie of the cutting."""


class NothingToRedo(WorldError):
    """No call can be done again."""


class NothingToUndo(WorldError):
    """No call can be taken back."""


class TooMany(WorldError):
    """There would be more than a limit allows."""

    def __init__(self, limit):
        super().__init__(f"more than {limit}")
        self.limit = limit
