import unittest

from coeditry.errors import NoPaper
from coeditry.gapchecker import lets_gap
from coeditry.gaps import gap_of
from coeditry.versions import is_closed
from tests.naive import BOOKS, key
from tests.samples import BOOK, THINGS, Odd
from tests.test_versions import HUGE, some_versions

HANDS = ("aa", "ann", "bob", "cy", "zz")


def gaps_of(book, version):
    """All GAPS, by [15]."""
    had, has = dict(version), {}
    for deed in book:
        has[deed[0]] = has.get(deed[0], 0) + 1
    told = [("lacks", hand) for hand in HANDS if had.get(hand, 0) > has.get(hand, 0)]
    for deed in book:
        if deed[1] < had.get(deed[0], 0):
            told += [("open", key(deed), hand) for hand in HANDS if dict(deed[3]).get(hand, 0) > had.get(hand, 0)]
    return told


class GapsTest(unittest.TestCase):
    def refused(self, book, version, thing, word):
        with self.assertRaises(NoPaper) as caught:
            lets_gap(book, version, thing)
        self.assertEqual((caught.exception.word, caught.exception.at), (word, -1))

    def test_a_gap_just_where_it_is_not_closed(self):
        words = set()
        for seed, book in enumerate(BOOKS):
            for version in some_versions(seed):
                gap = gap_of(book, version)
                self.assertEqual(gap_of(version=version, book=book), gap)
                self.assertIs(gap is None, is_closed(book, version))
                if gap is not None:
                    self.assertIn(gap, gaps_of(book, version))
                    self.assertEqual(lets_gap(book, version, gap), gap[0])
                    words.add(gap[0])
        self.assertEqual(words, {"lacks", "open"})

    def test_all_gaps_are_let_by_and_no_others(self):
        for seed, book in enumerate(BOOKS[:15]):
            for version in some_versions(seed):
                due = gaps_of(book, version)
                had = dict(version)
                for hand in HANDS:
                    if ("lacks", hand) in due:
                        self.assertEqual(lets_gap(book, version, ("lacks", hand)), "lacks")
                    else:
                        self.refused(book, version, ("lacks", hand), "gap")
                    for one in [key(deed) for deed in book] + [("ann", 40), ("zz", 0)]:
                        gap = ("open", one, hand)
                        if gap in due:
                            self.assertEqual(lets_gap(book=book, thing=gap, version=version), "open")
                        elif one not in [key(deed) for deed in book] or one[1] >= had.get(one[0], 0):
                            self.refused(book, version, gap, "key")
                        else:
                            self.refused(book, version, gap, "gap")

    def test_of_a_book(self):
        self.assertEqual(gap_of(BOOK, (("ann", 4),)), ("open", ("ann", 3), "bob"))
        self.assertEqual(gap_of(BOOK, (("cy", 1),)), ("lacks", "cy"))
        self.assertIsNone(gap_of(BOOK, ()))
        self.assertIsNone(gap_of((), ()))
        self.assertEqual(gap_of((), (("ann", HUGE),)), ("lacks", "ann"))

    def test_shape(self):
        things = THINGS + [Odd(), None, ("lacks",), ["lacks", "ann"], ("lacks", "Ann"), ("lacks", ("ann", 0)),
                           ("lacks", "ann", "bob"), ("open", "ann"), ("open", ("ann", 0)), ("open", ["ann", 0], "bob"),
                           ("open", ("ann", True), "bob"), ("open", ("ann", 0), "bob", 0), ("open", ("ann", 0), ""),
                           ["open", ("ann", 0), "bob"], ("open", "bob", ("ann", 0)), ("Open", ("ann", 0), "bob"),
                           ("gap", "ann"), (None, "ann"), ((), "ann"), ([], "ann"), ("open", ("ann", 0), None)]
        for thing in things:
            self.refused(BOOK, (("ann", 4),), thing, "shape")

    def test_key_goes_ahead_of_gap(self):
        self.refused(BOOK, (("ann", 4),), ("open", ("bob", 0), "zz"), "key")
        self.refused(BOOK, (("ann", 9),), ("open", ("ann", 4), "zz"), "key")
        self.refused(BOOK, (("ann", 4),), ("open", ("ann", 3), "zz"), "gap")
        self.refused(BOOK, (("ann", 4), ("bob", 1)), ("open", ("ann", 3), "bob"), "gap")
        self.refused(BOOK, (("ann", 4),), ("lacks", "ann"), "gap")

    def test_lacks_needs_no_key(self):
        self.assertEqual(lets_gap((), (("ann", HUGE),), ("lacks", "ann")), "lacks")


if __name__ == "__main__":
    unittest.main()
