import unittest

from coeditry.placechecker import lets_place
from coeditry.placepapers import place_paper
from tests.chance import PLAINS
from tests.naive import doc
from tests.story import Refusing, odd_names
from tests.test_placechecker import way
from tests.test_texts import TextTest, names, no_texts


class PaperTest(TextTest):
    def setUp(self):
        TextTest.setUp(self)
        self.one = self.put(None, "abc")
        self.two = self.suggest("put", (self.one, 1), "xy")
        self.left = self.suggest("put", None, "z")
        self.turn("take", self.two)
        self.cut((self.one, 0))

    def told(self, one, other, due):
        book = self.story.book()
        self.same(place_paper(book, one, other, doc=self.of), due)
        self.same(place_paper(other=other, one=one, doc=self.of, book=book), due)
        self.same(place_paper(book, other, one, doc=self.of), (due[1], due[0]))

    def test_the_ways(self):
        long = names(self.one, 0, 1) + names(self.two, 0, 1)
        self.told((self.one, 0), (self.one, 1), (names(self.one, 0), names(self.one, 0, 1)))
        self.told((self.two, 1), (self.one, 2), (long, names(self.one, 0, 1, 2)))
        self.told((self.two, 0), (self.two, 1), (long[:3], long))

    def test_names_that_are_not_there(self):
        book, here = self.story.book(), (self.one, 0)
        gone = [(self.one, 3), (self.left, 0), (self.one, True), [self.one, 0], (list(self.one), 0)] + odd_names()
        for thing in gone:
            self.no_key(thing, place_paper, book, thing, here, doc=self.of)
            self.no_key(thing, place_paper, book, here, thing, doc=self.of)
            self.no_key(thing, place_paper, book, thing, ["gone"], doc=self.of)

    def test_a_document_that_is_no_text(self):
        for thing in no_texts(self.story):
            for one in ((self.one, 0), None):
                self.no_key(thing, place_paper, self.story.book(), one, (self.one, 1), doc=thing)

    def test_the_document_by_its_name_alone(self):
        with self.assertRaises(TypeError):
            place_paper(self.story.book(), (self.one, 0), (self.one, 1), self.of)


class ManyTest(Refusing):
    def test_of_many_books(self):
        looked = 0
        for plain in PLAINS["text"]:
            of, row = ("ann", 0), plain.row(("ann", 0))
            alone = tuple(deed for deed in plain.book if doc(deed) == of)
            for one, other in list(zip(row, row[1:] + row[:1])) + list(zip(row, row[2:])):
                if one != other:
                    paper = place_paper(plain.book, one, other, doc=of)
                    self.same(paper, (way(plain, of, one), way(plain, of, other)))
                    self.same(place_paper(alone, one, other, doc=of), paper)
                    due = row.index(one) < row.index(other)
                    self.assertIs(lets_place(plain.book, one, other, paper, doc=of), due)
                    looked += 1
        self.assertGreater(looked, 200)


if __name__ == "__main__":
    unittest.main()
