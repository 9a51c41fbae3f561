import random
import unittest

from coeditry.books import both_books, deed_at, deeds_of, docs_of, is_book, lets_book
from coeditry.errors import NoDeed, NoKey
from tests.naive import BOOKS, a_book, a_what, book_fault, doc, key, knew
from tests.samples import ANN0, BOOK, THINGS, Odd

OPEN = ("open", "text")
ROW = ("row", ANN0)


class LookingTest(unittest.TestCase):
    def refused(self, thing, word):
        self.assertIs(is_book(thing), False, thing)
        with self.assertRaises(NoDeed) as caught:
            lets_book(thing)
        self.assertEqual(caught.exception.word, word, thing)

    def test_books(self):
        for book in BOOKS + [BOOK, ()]:
            self.assertIs(is_book(book), True)
            self.assertIs(is_book(thing=book), True)
            self.assertIs(lets_book(book), True)
            self.assertIs(lets_book(thing=book), True)

    def test_shape(self):
        self.refused(BOOK[0], "shape")
        for thing in THINGS + [Odd(), list(BOOK), [BOOK], BOOK]:
            self.refused(BOOK + (thing,), "shape")
        for thing in THINGS + [Odd(), list(BOOK), [BOOK]]:
            if thing != ():
                self.refused(thing, "shape")
                self.refused((thing,) + BOOK, "shape")
        self.refused(BOOK[:2] + (list(BOOK[2]),) + BOOK[3:], "shape")

    def test_rising(self):
        self.refused(BOOK + BOOK[:1], "rising")
        self.refused((BOOK[0], BOOK[0]), "rising")
        self.refused((BOOK[1], BOOK[0]), "rising")
        self.refused(tuple(reversed(BOOK)), "rising")
        other = ("ann", 0, 0, (), ("open", "tree"))
        self.refused((BOOK[0], other), "rising")

    def test_numbers_rise_as_numbers(self):
        book = tuple(("ann", n, 0, (("ann", n),) if n else (), OPEN) for n in range(12))
        self.assertIs(lets_book(book), True)

    def test_own(self):
        self.refused((("ann", 0, 0, (("ann", 1),), OPEN),), "own")
        self.refused((("ann", 1, 0, (), OPEN),), "own")
        self.refused((("ann", 1, 0, (("ann", 2),), OPEN),), "own")
        self.refused((("ann", 2, 0, (("ann", 1),), OPEN),), "own")
        self.refused((("ann", 0, 0, (("ann", 10 ** 199),), OPEN),), "own")
        self.refused((BOOK[0], ("ann", 1, 1, (("bob", 1),), ROW)), "own")

    def test_lacks(self):
        self.refused((("ann", 1, 0, (("ann", 1),), OPEN),), "lacks")
        self.refused((("ann", 0, 0, (("bob", 1),), OPEN),), "lacks")
        self.refused(BOOK[:2] + BOOK[3:], "lacks")
        self.refused(BOOK[:2] + BOOK[4:], "lacks")
        self.refused(BOOK[:-2] + BOOK[-1:], "lacks")
        self.refused(BOOK[1:], "lacks")

    def test_a_knew_that_tells_of_more_than_can_be_gone_through(self):
        many = 10 ** 199
        self.refused((("ann", many, 0, (("ann", many),), OPEN),), "lacks")
        self.refused((("ann", 0, 0, (("bob", many),), OPEN),), "lacks")
        self.refused((BOOK[0], ("bob", 0, 1, (("ann", many), ("cy", many)), ROW)), "lacks")
        self.refused((("ann", many, 0, (), OPEN),), "own")

    def test_closed(self):
        book = (("ann", 0, 0, (), OPEN), ("bob", 0, 1, (("ann", 1),), ROW), ("cy", 0, 0, (("bob", 1),), OPEN))
        self.refused(book, "closed")
        book = (("ann", 0, 0, (), OPEN), ("ann", 1, 1, (("ann", 1),), ROW), ("bob", 0, 2, (("ann", 2),), ROW),
                ("cy", 0, 0, (("ann", 1), ("bob", 1)), OPEN))
        self.refused(book, "closed")

    def test_closed_by_one_that_is_not_the_last(self):
        book = (("ann", 0, 0, (("bob", 2), ), OPEN), ("bob", 0, 0, (("cy", 1),), OPEN),
                ("bob", 1, 0, (("bob", 1),), OPEN), ("cy", 0, 0, (), OPEN))
        self.refused(book, "closed")

    def test_count(self):
        for wrong in (0, 2, 10 ** 199):
            self.refused((BOOK[0], ("ann", 1, wrong, (("ann", 1),), ROW)), "count")
        self.refused((("ann", 0, 1, (), OPEN),), "count")
        self.refused((("ann", 0, 1, (), ROW),), "count")
        self.assertIs(lets_book((("ann", 0, 0, (), OPEN), ("bob", 0, 0, (), ROW))), True)
        self.refused((("ann", 0, 0, (), OPEN), ("bob", 0, 1, (), ROW)), "count")

    def test_count_is_of_its_document_alone(self):
        book = (("ann", 0, 0, (), OPEN), ("ann", 1, 0, (("ann", 1),), OPEN), ("ann", 2, 1, (("ann", 2),), ROW))
        self.assertIs(lets_book(book), True)
        self.refused(book[:2] + (("ann", 2, 2, (("ann", 2),), ROW),), "count")

    def test_an_open_behind_deeds_of_its_document(self):
        early = ("bob", 0, 0, (), ROW)
        self.assertIs(lets_book((("ann", 0, 1, (("bob", 1),), OPEN), early)), True)
        self.refused((("ann", 0, 0, (("bob", 1),), OPEN), early), "count")

    def test_which_goes_first_in_one_deed(self):
        self.refused((("ann", 1, 9, (("bob", 1),), OPEN),), "own")
        self.refused((("ann", 1, 9, (("ann", 1), ("bob", 1)), OPEN),), "lacks")
        book = (("ann", 0, 0, (), OPEN), ("bob", 0, 1, (("ann", 1),), ROW), ("cy", 0, 9, (("bob", 1),), OPEN))
        self.refused(book, "closed")

    def test_which_goes_first_in_several(self):
        self.refused((("ann", 0, 9, (), OPEN), ("bob", 1, 0, (), OPEN)), "count")
        self.refused((("ann", 0, 0, (("cy", 1),), OPEN), ("bob", 1, 0, (), OPEN)), "lacks")
        self.refused((("ann", 0, 0, (), OPEN), ("bob", 1, 0, (), OPEN), ("cy", 0, 9, (), OPEN)), "own")
        self.refused((("bob", 1, 0, (), OPEN), ("ann", 0, 9, (), OPEN)), "rising")
        self.refused((("bob", 1, 0, (), OPEN), ("ann", 0, 9, (), OPEN), 0), "shape")

    def test_deeds_out_of_place_by_chance(self):
        chance = random.Random(7)
        words = set()
        for turn in range(3000):
            book = list(chance.choice(BOOKS[:40]))
            for _ in range(chance.choice([1, 1, 2])):
                at = chance.randrange(len(book))
                hand, n, count, known, what = book[at]
                pairs = dict(known)
                pairs[chance.choice(["ann", "bob", "cy"])] = chance.randrange(1, 8)
                if chance.random() < 0.5:
                    pairs.pop(chance.choice(sorted(pairs)))
                book[at] = chance.choice([
                    (hand, n, chance.randrange(6), known, what), (hand, n, count, tuple(sorted(pairs.items())), what),
                    (hand, n, count, known, a_what(chance, book)), (hand, chance.randrange(6), count, known, what),
                ])
            if chance.random() < 0.3:
                del book[chance.randrange(len(book))]
            book = tuple(sorted(book) if chance.random() < 0.7 else book)
            due = book_fault(book)
            words.add(due)
            if due is None:
                self.assertIs(lets_book(book), True)
            else:
                self.refused(book, due)
        self.assertEqual(words, {None, "rising", "own", "lacks", "closed", "count"})


class AskingTest(unittest.TestCase):
    def test_deed_at(self):
        for book in BOOKS + [BOOK]:
            for deed in book:
                self.assertEqual(deed_at(book, key(deed)), deed)
        self.assertEqual(deed_at(key=ANN0, book=BOOK), BOOK[0])

    def test_no_deed_there(self):
        for thing in THINGS + [Odd(), ("ann", 4), ("bob", 2), ("cy", 0), ("ann", 10 ** 199), BOOK[0], ["ann", 0]]:
            if thing in (("ann", 0), ("ann", 1)) and type(thing[1]) is int:
                continue
            with self.assertRaises(NoKey) as caught:
                deed_at(BOOK, thing)
            self.assertIs(caught.exception.key, thing)
            with self.assertRaises(NoKey) as caught:
                deed_at((), thing)
            self.assertIs(caught.exception.key, thing)

    def test_docs(self):
        self.assertEqual(docs_of(()), ())
        self.assertEqual(docs_of(BOOK), (("ann", 0), ("ann", 3)))
        for book in BOOKS:
            self.assertEqual(docs_of(book=book), tuple(key(deed) for deed in book if deed[4][0] == "open"))

    def test_deeds_of(self):
        self.assertEqual(deeds_of(BOOK, ANN0), (BOOK[0], BOOK[1], BOOK[2], BOOK[4], BOOK[5]))
        self.assertEqual(deeds_of(BOOK, ("ann", 3)), (BOOK[3],))
        for book in BOOKS:
            for of in {doc(deed) for deed in book}:
                due = sorted([deed for deed in book if doc(deed) == of], key=lambda deed: (deed[2], deed[0]))
                self.assertEqual(deeds_of(doc=of, book=book), tuple(due))

    def test_order_is_not_the_order_of_keys(self):
        book = (("ann", 0, 1, (("bob", 1),), OPEN), ("bob", 0, 0, (), ROW))
        self.assertEqual(deeds_of(book, ANN0), (book[1], book[0]))

    def test_deeds_of_no_document(self):
        for thing in THINGS + [Odd(), ("ann", 2), ("bob", 0), ["ann", 0], BOOK[0]]:
            if not (thing == ("ann", 0) and thing[1] is not False):
                self.assertEqual(deeds_of(BOOK, thing), (), thing)

    def test_deeds_of_a_document_that_is_not_opened(self):
        book = (("bob", 0, 0, (), ROW),)
        self.assertEqual(deeds_of(book, ANN0), book)
        self.assertEqual(docs_of(book), ())


class BothTest(unittest.TestCase):
    def parts(self, book):
        """BOOKS that a BOOK has: of each DEED, all that it knew and it itself."""
        for deed in book:
            had = knew(deed) | {key(deed)}
            yield tuple(one for one in book if key(one) in had)

    def test_both(self):
        for book in BOOKS:
            for one in self.parts(book):
                for other in self.parts(book):
                    due = tuple(sorted(set(one) | set(other)))
                    told = both_books(one, other)
                    self.assertEqual(told, due)
                    self.assertIs(type(told), tuple)
                    self.assertIs(is_book(told), True)
                self.assertEqual(both_books(other=book, one=one), book)
            self.assertEqual(both_books(book, ()), book)
            self.assertEqual(both_books((), book), book)
            self.assertEqual(both_books(book, book), book)

    def test_unlike_deeds_of_one_key(self):
        one = (("ann", 0, 0, (), ("open", "text")),)
        other = (("ann", 0, 0, (), ("open", "rows")), ("bob", 0, 0, (), ("open", "rows")))
        for first, second in ((one, other), (other, one), (BOOK, other)):
            with self.assertRaises(NoDeed) as caught:
                both_books(first, second)
            self.assertEqual(caught.exception.word, "other")

    def test_by_chance(self):
        for seed in range(20):
            one, other = a_book(seed, many=4), a_book(seed + 1, many=4)
            table = {key(deed): deed for deed in one}
            if all(table.get(key(deed), deed) == deed for deed in other):
                self.assertIs(is_book(both_books(one, other)), True)
            else:
                with self.assertRaises(NoDeed):
                    both_books(one, other)


if __name__ == "__main__":
    unittest.main()
