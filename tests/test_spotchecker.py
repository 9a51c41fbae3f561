import unittest

from coeditry.errors import NoPaper
from coeditry.spotchecker import lets_spots
from coeditry.words import spots_of
from tests.samples import THINGS, Odd
from tests.test_words import INDEX, VIEW

AB = spots_of(VIEW, "ab")


class SpotcheckerTest(unittest.TestCase):
    def refused(self, thing, word, at, text="ab"):
        with self.assertRaises(NoPaper) as caught:
            lets_spots(VIEW, text, thing)
        self.assertEqual(caught.exception.word, word)
        self.assertEqual(caught.exception.at, at)
        self.assertIs(type(caught.exception.at), type(at))

    def test_lets_by(self):
        for word, spots in INDEX:
            self.assertEqual(lets_spots(VIEW, word, spots), len(spots))
            self.assertEqual(lets_spots(thing=spots, word=word, view=VIEW), len(spots))
        for word in ("", "none", "Ab", "a b", "zz"):
            self.assertEqual(lets_spots(VIEW, word, ()), 0)

    def test_shape(self):
        for thing in THINGS + [Odd(), VIEW]:
            if thing != ():
                self.refused(thing, "shape", -1)
        self.refused(list(AB), "shape", -1)
        spot = (0, 0, ("", 0))
        for bad in ([0, 0, ("", 0)], (0, 0), (0, 0, ("", 0), 0), (True, 0, ("", 0)), (0, False, ("", 0)),
                    (0, 0, ("", False)), (0, 0, ["", 0]), (0, 0, ("",)), (0, 0, ("", 0, 0)), (-1, 0, ("", 0)),
                    (0, -1, ("", 0)), (0, 0, ("", -1)), (0, 0, (0, "")), ("0", 0, ("", 0)), (0, 0, (None, 0)),
                    (0, 0, ("", None)), (0, 0, "a0"), (None, 0, ("", 0))):
            self.refused((bad,), "shape", -1)
            self.refused((spot, bad), "shape", -1)

    def test_spot(self):
        for bad in ((0, 1, ("", 0)), (0, 12, ("", 0)), (0, 0, ("", 1)), (0, 0, ("a", 0)), (9, 0, ("", 0)),
                    (0, 10 ** 199, ("", 0)), (1, 0, ("name", 3)), (1, 0, ("", 0)), (1, 2, ("name", 0)),
                    (2, 1, ("", 0)), (2, 3, ("", 0)), (1, 0, ("cost", 0))):
            self.refused((bad,), "spot", 0)
            self.refused((AB[0], bad), "spot", 1)
        self.refused(AB, "spot", 0, text="abc")
        self.refused(AB, "spot", 0, text="")
        self.refused((AB[0],), "spot", 0, text="a")

    def test_order(self):
        self.refused((AB[1], AB[0]) + AB[2:], "order", 1)
        self.refused((AB[0], AB[0]), "order", 1)
        self.refused(AB + (AB[0],), "order", len(AB))

    def test_few(self):
        self.refused((), "few", AB[0])
        for k in range(len(AB)):
            self.refused(AB[:k] + AB[k + 1:], "few", AB[k])
        self.refused((AB[1], AB[3]), "few", AB[0])

    def test_which_goes_first(self):
        bad = (0, 1, ("", 0))
        self.refused((bad, (0,)), "shape", -1)
        self.refused((AB[1], AB[0], bad), "order", 1)
        self.refused((AB[1], bad, AB[0]), "spot", 1)
        self.refused((AB[1], bad), "spot", 1)
        self.refused((AB[2], AB[1]), "order", 1)

    def test_nothing_is_changed(self):
        thing = [[0, 0, ["", 0]]]
        self.refused(thing, "shape", -1)
        self.assertEqual(thing, [[0, 0, ["", 0]]])

    def test_clashes_are_aside(self):
        self.refused(((1, 0, ("name", 0)),), "spot", 0, text="zz")


if __name__ == "__main__":
    unittest.main()
