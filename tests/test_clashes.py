import unittest

from coeditry.clashes import clashes, last_ones
from coeditry.rows import rows_of
from tests.chance import ALL, PLAINS
from tests.naive import BOOKS, doc, key, make
from tests.plain import Plain
from tests.samples import THINGS, Odd
from tests.story import Refusing, Story, odd_keys
from tests.test_rows import RowsTest, no_rows


class ClashTest(RowsTest):
    def setUp(self):
        RowsTest.setUp(self)
        self.one = self.row()

    def apart(self, *values, field="cost", hands=("bob", "dora", "ann")):
        """Sets of these VALUES, made apart by HANDS who knew the row alone of them."""
        return [self.put(self.one, field, value, hand, [self.one]) for value, hand in zip(values, hands)]

    def clashes(self, *due):
        book = self.story.book()
        self.same(clashes(book, doc=self.of), due)
        self.same(clashes(doc=self.of, book=book), due)

    def last(self, *keys, row=None, field="cost"):
        book, row, due = self.story.book(), row or self.one, tuple(sorted(keys))
        self.same(last_ones(book, row, field, doc=self.of), due)
        self.same(last_ones(field=field, row=row, doc=self.of, book=book), due)

    def test_none(self):
        self.clashes()
        self.last()

    def test_by_one_hand(self):
        self.put(self.one, "cost", 1)
        two = self.put(self.one, "cost", 2)
        self.clashes()
        self.last(two)

    def test_by_hands_apart(self):
        sets = self.apart(1, 2)
        self.last(*sets)
        self.clashes((self.one, "cost", tuple(sorted(sets))))
        more = self.put(self.one, "cost", 1, knew_of=[self.one])
        self.last(more, *sets)
        self.clashes((self.one, "cost", tuple(sorted(sets + [more]))))

    def test_with_the_same_value(self):
        sets = self.apart("1", "1", "1")
        self.last(*sets)
        self.clashes()

    def test_a_number_and_a_text_are_not_the_same(self):
        sets = self.apart(1, "1")
        self.clashes((self.one, "cost", tuple(sorted(sets))))

    def test_one_of_three_is_another(self):
        for values in ((1, 1, 2), (1, 2, 1), (2, 1, 1)):
            self.setUp()
            sets = self.apart(*values)
            self.clashes((self.one, "cost", tuple(sorted(sets))))

    def test_by_who_knew_another(self):
        first, _ = self.apart(1, 2)
        later = self.put(self.one, "cost", 3, hand="bob", knew_of=[])
        other = ("dora", 0)
        self.last(later, other)
        self.clashes((self.one, "cost", tuple(sorted([later, other]))))
        self.assertNotIn(first, last_ones(self.story.book(), self.one, "cost", doc=self.of))

    def test_ended_by_who_knew_all(self):
        self.apart(1, 2)
        last = self.put(self.one, "cost", 1)
        self.last(last)
        self.clashes()

    def test_ended_by_one_that_is_undone(self):
        sets = self.apart(1, 2)
        last = self.put(self.one, "cost", 3)
        self.turn("undo", last)
        self.last(*sets)
        self.clashes((self.one, "cost", tuple(sorted(sets))))
        self.turn("redo", last)
        self.last(last)
        self.clashes()

    def test_one_undone(self):
        sets = self.apart(1, 2)
        self.turn("undo", sets[0], "bob")
        self.last(sets[1])
        self.clashes()

    def test_one_that_does_not_stand(self):
        one = self.put(self.one, "cost", 1)
        self.put(self.one, "cost", 2, hand="cy", knew_of=[self.one])
        self.last(one)
        self.clashes()

    def test_other_fields_and_rows_are_apart(self):
        two = self.row()
        sets = [self.put(self.one, "cost", 1, "bob", [two]), self.put(self.one, "name", 2, "dora", [two])]
        more = self.put(two, "cost", 3, "dora", [two])
        self.last(sets[0])
        self.last(sets[1], field="name")
        self.last(more, row=two)
        self.clashes()

    def test_they_rise_by_rows_and_fields(self):
        bobs = self.row("bob", knew_of=[("ann", 2)])
        anns = self.row()
        self.assertLess(anns, bobs)
        rows = []
        for row in (bobs, anns):
            for field in ("name", "cost"):
                sets = tuple(self.put(row, field, value, hand, [anns]) for value, hand in ((1, "bob"), (2, "dora")))
                rows.append((row, field, sets))
        self.clashes(rows[3], rows[2], rows[1], rows[0])

    def test_of_rows_that_are_none(self):
        sets = self.apart(1, 2)
        drop = self.drop(self.one)
        self.clashes()
        self.last(*sets)
        self.turn("undo", drop)
        self.clashes((self.one, "cost", tuple(sorted(sets))))
        self.turn("undo", self.one)
        self.clashes()
        self.last(*sets)

    def test_rows_and_fields_that_are_not_there(self):
        self.apart(1, 2)
        book = self.story.book()
        for thing in odd_keys() + THINGS + [Odd(), self.of, ("ann", 40), list(self.one), [list(self.one)]]:
            self.same(last_ones(book, thing, "cost", doc=self.of), ())
        for thing in THINGS + [Odd(), "name", ["cost"], ("cost",), b"cost", self.one]:
            if thing != "cost":
                self.same(last_ones(book, self.one, thing, doc=self.of), ())

    def test_a_truth_is_no_number(self):
        story = Story()
        of = story.make("ann", ("open", "rows"))
        row = story.make("ann", ("row", of))
        one = story.make("ann", ("set", of, row, "cost", 1))
        self.assertEqual(row, ("ann", True))
        self.same(last_ones(story.book(), row, "cost", doc=of), (one,))
        self.same(last_ones(story.book(), ("ann", True), "cost", doc=of), ())

    def test_what_is_said_is_no_field(self):
        sets = self.apart(1, 2)
        said = self.story.make("ann", ("say", self.of, self.one, "cost"))
        self.assertEqual(self.story.deed(said)[4][2:4], (self.one, "cost"))
        self.last(*sets)
        self.clashes((self.one, "cost", tuple(sorted(sets))))

    def test_a_document_that_is_none_of_rows(self):
        for thing in no_rows(self.story):
            self.no_key(thing, clashes, self.story.book(), doc=thing)
            for row in (self.one, None, ["a"]):
                self.no_key(thing, last_ones, self.story.book(), row, "cost", doc=thing)
                self.no_key(thing, last_ones, self.story.book(), row, None, doc=thing)

    def test_the_document_by_its_name_alone(self):
        with self.assertRaises(TypeError):
            clashes(self.story.book(), self.of)
        with self.assertRaises(TypeError):
            last_ones(self.story.book(), self.one, "cost", self.of)

    def test_what_is_handed_in_stays(self):
        row, field = ["ann", 0], ["cost"]
        self.same(last_ones(self.story.book(), row, field, doc=self.of), ())
        self.assertEqual((row, field), (["ann", 0], ["cost"]))


class ManyTest(Refusing):
    def test_of_many_books(self):
        many = 0
        for plain in ALL + [Plain(book) for book in BOOKS]:
            for of in [key(deed) for deed in plain.book if deed[4] == ("open", "rows")]:
                self.same(clashes(plain.book, doc=of), plain.clashes(of))
                many += len(plain.clashes(of))
                for row, field in {deed[4][2:4] for deed in plain.book if deed[4][0] == "set"}:
                    self.same(last_ones(plain.book, row, field, doc=of), plain.last_ones(of, row, field))
        self.assertGreater(many, 10)

    def test_the_value_is_that_of_a_last_one_and_who_knew_them_all_ends_it(self):
        for plain in PLAINS["rows"]:
            of = ("ann", 0)
            for row, fields in rows_of(plain.book, doc=of):
                for field, value in fields:
                    keys = last_ones(plain.book, row, field, doc=of)
                    self.assertIn(repr(value), [repr(plain.table[one][4][4]) for one in keys])
            for row, field, _ in clashes(plain.book, doc=of):
                more = make(list(plain.book), "ann", ("set", of, row, field, 5))
                book = tuple(sorted(plain.book + (more,), key=key))
                if Plain(book).reason(key(more)) is None:
                    self.same(last_ones(book, row, field, doc=of), (key(more),))
                    self.assertNotIn((row, field), [clash[:2] for clash in clashes(book, doc=of)])

    def test_other_documents_turn_nothing(self):
        for plain in PLAINS["rows"]:
            alone = tuple(deed for deed in plain.book if doc(deed) == ("ann", 0))
            self.same(clashes(alone, doc=("ann", 0)), clashes(plain.book, doc=("ann", 0)))


if __name__ == "__main__":
    unittest.main()
