"""Point 99: the errors."""

from unittest import TestCase

from eightworlds import errors
from eightworlds.errors import TooMany, WorldError

NAMES = """InvalidCutting InvalidCorner InvalidCorners InvalidCut InvalidCuts InvalidSides InvalidSide InvalidNumber
InvalidPrime InvalidIndex InvalidText InvalidRow InvalidPlace InvalidFrieze InvalidFacts InvalidValues InvalidRoad
InvalidMark InvalidFraction InvalidChain InvalidThreefold InvalidSign InvalidWorths InvalidLoose Crossing Unlike
InvalidCounts InvalidLine InvalidPairing InvalidShape InvalidLengths InvalidTile InvalidLot InvalidSum InvalidWay
InvalidTree InvalidFork InvalidReaches InvalidMountain InvalidHeights InvalidVotes InvalidParting InvalidPoints
InvalidBlocks InvalidSwaps InvalidStair InvalidParking InvalidField InvalidShare InvalidState InvalidStep InvalidScript
NoEar Held InvalidTie NothingToRedo NothingToUndo""".split()


class Errors(TestCase):
    def test_the_base(self):
        self.assertEqual(WorldError.__bases__, (ValueError,))
        self.assertEqual(WorldError.__module__, "eightworlds.errors")

    def test_each_is_a_direct_subclass(self):
        for name in NAMES + ["TooMany"]:
            error = getattr(errors, name)
            self.assertEqual(error.__bases__, (WorldError,))
            self.assertEqual((error.__name__, error.__module__), (name, "eightworlds.errors"))
        self.assertEqual(sorted(NAMES + ["TooMany"]), sorted(one.__name__ for one in WorldError.__subclasses__()))

    def test_each_takes_a_message(self):
        for name in NAMES:
            with self.assertRaises(WorldError) as caught:
                raise getattr(errors, name)("what is wrong")
            self.assertEqual(str(caught.exception), "what is wrong")

    def test_too_many(self):
        for limit in (0, 9, 40, 10 ** 30):
            with self.assertRaises(WorldError) as caught:
                raise TooMany(limit)
            self.assertEqual(caught.exception.limit, limit)
            self.assertIsInstance(str(caught.exception), str)

    def test_messages_are_there(self):
        for call in (lambda: errors.TooMany(9), lambda: errors.InvalidCut("x")):
            self.assertTrue(str(call()))
