import itertools
import random
import unittest

from coeditry.books import is_book
from coeditry.errors import NoDeed
from coeditry.versions import (book_at, both, closed_over, either, has_all, has_key, is_closed, version_of)
from tests.naive import BOOKS, key, keys_of, knew
from tests.naive import version as version_by
from tests.samples import BOOK

HUGE = 10 ** 199
VERSIONS = [(), (("ann", 1),), (("ann", 2),), (("bob", 1),), (("ann", 1), ("bob", 2)), (("ann", 2), ("cy", 1)),
            (("ann", 1), ("bob", 1), ("cy", 2)), (("aa", 1), ("ann", 3)), (("zz", 4),)]


def some_versions(seed, hands=("ann", "bob", "cy")):
    chance = random.Random(seed)
    told = [(), (("zz", 3),), (("aa", 1), ("ann", HUGE))]
    for _ in range(12):
        pairs = [(hand, chance.randrange(0, 8)) for hand in hands]
        told.append(tuple((hand, many) for hand, many in pairs if many))
    return told


def closed_in(book, version):
    """Whether a VERSION is CLOSED, by sets."""
    table = {key(deed): deed for deed in book}
    if sum(many for _, many in version) > len(book) or not keys_of(version) <= set(table):
        return False
    return all(knew(table[one]) <= keys_of(version) for one in keys_of(version))


class VersionsTest(unittest.TestCase):
    def test_has_key(self):
        version = (("ann", 2), ("cy", 1))
        for one, due in ((("ann", 0), True), (("ann", 1), True), (("ann", 2), False), (("bob", 0), False),
                         (("cy", 0), True), (("cy", 1), False), (("ann", HUGE), False)):
            self.assertIs(has_key(version, one), due)
            self.assertIs(has_key(key=one, version=version), due)
        self.assertIs(has_key((), ("ann", 0)), False)
        self.assertIs(has_key((("ann", HUGE),), ("ann", HUGE - 1)), True)

    def test_version_of(self):
        self.assertEqual(version_of(()), ())
        self.assertEqual(version_of(BOOK), (("ann", 4), ("bob", 2)))
        for book in BOOKS:
            self.assertEqual(version_of(book=book), version_by({key(deed) for deed in book}))

    def test_either_both_and_has_all(self):
        for one, other in itertools.product(VERSIONS, repeat=2):
            self.assertEqual(either(one, other), version_by(keys_of(one) | keys_of(other)))
            self.assertEqual(both(one, other), version_by(keys_of(one) & keys_of(other)))
            self.assertIs(has_all(one, other), keys_of(one) >= keys_of(other))
            self.assertEqual(either(other=other, one=one), either(one, other))
            self.assertEqual(both(other=other, one=one), both(one, other))
            self.assertIs(has_all(other=other, one=one), has_all(one, other))

    def test_huge(self):
        self.assertEqual(either((("ann", HUGE),), (("ann", 1),)), (("ann", HUGE),))
        self.assertEqual(both((("ann", HUGE),), (("ann", 1),)), (("ann", 1),))
        self.assertIs(is_closed(BOOK, (("ann", HUGE),)), False)
        self.assertEqual(closed_over(BOOK, (("ann", HUGE), ("zz", HUGE))), (("ann", 4), ("bob", 1)))

    def test_closed(self):
        for seed, book in enumerate(BOOKS):
            for version in some_versions(seed):
                due = closed_in(book, version)
                self.assertIs(is_closed(book, version), due)
                self.assertIs(is_closed(version=version, book=book), due)
                if due:
                    told = book_at(book, version)
                    self.assertEqual(told, tuple(deed for deed in book if key(deed) in keys_of(version)))
                    self.assertIs(is_book(told), True)
                    self.assertEqual(version_of(told), version)
                else:
                    with self.assertRaises(NoDeed) as caught:
                        book_at(version=version, book=book)
                    self.assertEqual(caught.exception.word, "closed")

    def test_of_a_book(self):
        self.assertEqual(book_at(BOOK, ()), ())
        self.assertEqual(book_at(BOOK, (("ann", 3),)), BOOK[:3])
        self.assertEqual(book_at(BOOK, (("ann", 2), ("bob", 1))), BOOK[:2] + BOOK[4:5])
        self.assertIs(is_closed(BOOK, (("ann", 4),)), False)
        self.assertIs(is_closed(BOOK, (("bob", 1),)), False)
        self.assertIs(is_closed(BOOK, (("cy", 1),)), False)
        self.assertEqual(book_at(BOOK, version_of(BOOK)), BOOK)

    def test_closed_over_is_the_least(self):
        for seed, book in enumerate(BOOKS):
            table = {key(deed): deed for deed in book}
            for version in some_versions(seed):
                had = {one for one in table if has_key(version, one)}
                for one in list(had):
                    had |= knew(table[one])
                told = closed_over(book, version)
                self.assertEqual(told, version_by(had))
                self.assertEqual(closed_over(version=version, book=book), told)
                self.assertTrue(closed_in(book, told))

    def test_either_and_both_of_closed_ones_are_closed(self):
        for seed, book in enumerate(BOOKS):
            told = [closed_over(book, version) for version in some_versions(seed)]
            for one, other in itertools.product(told, repeat=2):
                self.assertIs(is_closed(book, either(one, other)), True)
                self.assertIs(is_closed(book, both(one, other)), True)
            self.assertIs(is_closed(book, version_of(book)), True)
            self.assertIs(is_closed(book, ()), True)


if __name__ == "__main__":
    unittest.main()
