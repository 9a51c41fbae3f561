import unittest

from coeditry.rows import rows_of
from tests.chance import ALL, PLAINS
from tests.naive import BOOKS, doc, key
from tests.plain import Plain
from tests.story import Refusing, odd_keys, opened


def no_rows(story):
    """KEYS, and other things, that are no document of rows of the Story."""
    other = [story.make("ann", ("open", sort)) for sort in ("text", "tree")]
    bare = story.make("ann", ("row", ("zz", 0)))
    return other + [bare, ("zz", 0), ("ann", 1), ["ann", 0], ("ann", False)] + odd_keys()


class RowsTest(Refusing):
    """Rows of ann's, which bob may change."""

    def setUp(self):
        self.story, self.of = opened("rows", bob="change", dora="change")

    def row(self, hand="ann", knew_of=None):
        return self.story.make(hand, ("row", self.of), knew_of)

    def put(self, row, field, value, hand="ann", knew_of=None):
        """A "set" of the row and the FIELD."""
        return self.story.make(hand, ("set", self.of, row, field, value), knew_of)

    def drop(self, row, hand="ann"):
        return self.story.make(hand, ("drop", self.of, row))

    def turn(self, word, one, hand="ann"):
        return self.story.make(hand, (word, self.of, one))

    def rows(self, *due):
        book = self.story.book()
        self.same(rows_of(book, doc=self.of), due)
        self.same(rows_of(doc=self.of, book=book), due)


class FieldsTest(RowsTest):
    def test_none(self):
        self.rows()

    def test_without_fields(self):
        one, two = self.row(), self.row()
        self.rows((one, ()), (two, ()))

    def test_in_order_not_by_keys(self):
        bobs = self.row("bob", knew_of=[("ann", 2)])
        anns = self.row(knew_of=[])
        more = self.row()
        self.assertLess(more, bobs)
        self.rows((anns, ()), (bobs, ()), (more, ()))

    def test_fields_rise(self):
        one, two = self.row(), self.row()
        for field, value in (("name", "x y"), ("cost", 7), ("b", -3), ("a", "7")):
            self.put(one, field, value)
        self.put(two, "cost", 0)
        self.rows((one, (("a", "7"), ("b", -3), ("cost", 7), ("name", "x y"))), (two, (("cost", 0),)))

    def test_the_last_one_in_order_counts(self):
        one = self.row()
        self.put(one, "cost", 1)
        self.put(one, "cost", "one")
        self.rows((one, (("cost", "one"),)))
        self.put(one, "cost", 2, hand="bob", knew_of=[one])
        self.put(one, "cost", 3, hand="bob", knew_of=[])
        self.rows((one, (("cost", 3),)))
        self.put(one, "cost", 4)
        self.rows((one, (("cost", 4),)))

    def test_undone_and_done_again(self):
        one = self.row()
        self.put(one, "cost", 1)
        last = self.put(one, "cost", 2)
        name = self.put(one, "name", "x")
        self.turn("undo", last)
        self.turn("undo", name)
        self.rows((one, (("cost", 1),)))
        self.turn("redo", last)
        self.rows((one, (("cost", 2),)))

    def test_sets_that_do_not_stand(self):
        one = self.row()
        self.put(one, "cost", 1, hand="cy")
        self.put(("zz", 0), "cost", 1)
        self.rows((one, ()))

    def test_dropped(self):
        one, two = self.row(), self.row()
        self.put(one, "cost", 1)
        drop = self.drop(one)
        self.put(one, "name", "x")
        self.rows((two, ()))
        more = self.drop(one, "bob")
        self.turn("undo", drop)
        self.rows((two, ()))
        self.turn("undo", more, "bob")
        self.rows((one, (("cost", 1), ("name", "x"))), (two, ()))
        self.turn("redo", drop)
        self.rows((two, ()))

    def test_drops_that_do_not_stand(self):
        one = self.row()
        self.drop(one, "cy")
        self.rows((one, ()))

    def test_rows_undone(self):
        one, two = self.row(), self.row("bob")
        self.put(one, "cost", 1)
        self.turn("undo", one)
        self.put(one, "name", "x")
        self.rows((two, ()))
        self.turn("redo", one)
        self.rows((one, (("cost", 1), ("name", "x"))), (two, ()))

    def test_rows_that_do_not_stand(self):
        self.row("cy")
        self.rows()

    def test_of_another_document(self):
        other = self.story.make("ann", ("open", "rows"))
        apart = self.story.make("ann", ("row", other))
        self.rows()
        self.same(rows_of(self.story.book(), doc=other), ((apart, ()),))

    def test_a_document_that_is_none_of_rows(self):
        for thing in no_rows(self.story):
            self.no_key(thing, rows_of, self.story.book(), doc=thing)
            self.no_key(thing, rows_of, (), doc=thing)

    def test_the_document_by_its_name_alone(self):
        with self.assertRaises(TypeError):
            rows_of(self.story.book(), self.of)


class ManyTest(Refusing):
    def test_of_many_books(self):
        many = 0
        for plain in ALL + [Plain(book) for book in BOOKS]:
            for of in [key(deed) for deed in plain.book if deed[4] == ("open", "rows")]:
                self.same(rows_of(plain.book, doc=of), plain.rows(of))
                many += len([fields for _, fields in plain.rows(of) if len(fields) > 0])
        self.assertGreater(many, 50)

    def test_other_documents_turn_nothing(self):
        for plain in PLAINS["rows"]:
            alone = tuple(deed for deed in plain.book if doc(deed) == ("ann", 0))
            self.same(rows_of(alone, doc=("ann", 0)), rows_of(plain.book, doc=("ann", 0)))


if __name__ == "__main__":
    unittest.main()
