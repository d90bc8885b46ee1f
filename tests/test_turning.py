"""Point 49: turning."""

from unittest import TestCase

from eightworlds.turning import alike, mirrored, own_turns, plain, turned
from tests.helpers import FAN, GREAT, H, P, Q, SMALL, TRIANGLE, Z, every_cutting


def slow_moved(cutting, to):
    """A cutting in which each corner has got another number."""
    return (cutting[0], tuple(sorted(tuple(sorted((to[low], to[high]))) for low, high in cutting[1])))


def slow_turned(cutting, steps):
    """A cutting turned, step by step."""
    to = list(range(cutting[0]))
    while steps:
        to = [(corner + 1 if steps > 0 else corner - 1) for corner in to]
        to = [corner - cutting[0] if corner >= cutting[0] else corner for corner in to]
        to = [corner + cutting[0] if corner < 0 else corner for corner in to]
        steps += -1 if steps > 0 else 1
    return slow_moved(cutting, to)


def slow_mirrored(cutting):
    """The mirror image of a cutting."""
    return slow_moved(cutting, [0] + list(range(cutting[0] - 1, 0, -1)))


def slow_images(cutting):
    """All to which turning and mirroring lead."""
    return [slow_turned(one, steps) for one in (cutting, slow_mirrored(cutting)) for steps in range(cutting[0])]


class Turning(TestCase):
    def test_turned(self):
        for cutting in SMALL + GREAT:
            for steps in (0, 1, -1, 2, -5, cutting[0] - 1, cutting[0], 41, -41, 999, 1000, -1000):
                self.assertEqual(turned(cutting, steps), slow_turned(cutting, steps))

    def test_mirrored(self):
        for cutting in SMALL + GREAT:
            self.assertEqual(mirrored(cutting), slow_mirrored(cutting))
            self.assertEqual(mirrored(mirrored(cutting)), cutting)

    def test_plain(self):
        for cutting in SMALL + GREAT:
            self.assertEqual(plain(cutting), min(slow_images(cutting)))
            self.assertEqual(plain(turned(mirrored(cutting), 3)), plain(cutting))

    def test_alike_just_if_the_plain_form_is_the_same(self):
        for sides in (3, 4, 5, 6):
            for one in every_cutting(sides):
                for other in every_cutting(sides):
                    self.assertIs(alike(one, other), other in slow_images(one))
                    self.assertIs(alike(one, other), plain(one) == plain(other))

    def test_other_polygons_are_not_alike(self):
        self.assertIs(alike(P, Q), False)
        self.assertIs(alike(TRIANGLE, FAN), False)

    def test_own_turns(self):
        for cutting in SMALL + GREAT:
            wanted = [(steps, False) for steps in range(cutting[0]) if slow_turned(cutting, steps) == cutting]
            image = slow_mirrored(cutting)
            wanted += [(steps, True) for steps in range(cutting[0]) if slow_turned(image, steps) == cutting]
            told = own_turns(cutting)
            self.assertEqual(told, sorted(wanted))
            self.assertTrue(all(mark is True or mark is False for _, mark in told))
            self.assertEqual(told[0], (0, False))

    def test_own_turns_of_a_triangle(self):
        self.assertEqual(len(own_turns(TRIANGLE)), 6)
        self.assertEqual(own_turns(Z), [(0, False), (3, False)])
        self.assertEqual(own_turns(H)[:3], [(0, False), (0, True), (2, False)])
