import unittest

from coeditry.words import index, spots_of


def text(signs):
    return ("text", "own", tuple((sign, ()) for sign in signs), (), (), ())


def rows(*body):
    return ("rows", "see", body, (), (), ())


def tree(*body):
    return ("tree", "own", body, (), (), ())


TEXT = text("ab c2ab Xab-abc")
ROWS = rows(
    (("cost", 7, ()), ("name", "ab abc", ("zz", "ab abc"))),
    (),
    (("aa", "ab", ()), ("name", "Xab", ())),
)
TREE = tree((None, "ab"), (0, "abc"), (0, "ab"))
VIEW = (TEXT, ROWS, TREE)

INDEX = (
    ("ab", ((0, 0, ("", 0)), (0, 5, ("", 0)), (0, 9, ("", 0)), (1, 0, ("name", 0)), (1, 2, ("aa", 0)),
            (1, 2, ("name", 1)), (2, 0, ("", 0)), (2, 2, ("", 0)))),
    ("abc", ((0, 12, ("", 0)), (1, 0, ("name", 3)), (2, 1, ("", 0)))),
    ("c", ((0, 3, ("", 0)),)),
)


class WordsTest(unittest.TestCase):
    def test_index_of_all_sorts(self):
        self.assertEqual(index(VIEW), INDEX)
        self.assertEqual(index(view=VIEW), INDEX)

    def test_spots_of_each_word(self):
        for word, spots in INDEX:
            self.assertEqual(spots_of(VIEW, word), spots)
            self.assertEqual(spots_of(word=word, view=VIEW), spots)

    def test_no_spots(self):
        for word in ("", " ", "a", "b", "bc", "Xab", "ab c", "7", "zz", "cost", "name", "xab", "ab-abc", "a\n"):
            self.assertEqual(spots_of(VIEW, word), ())

    def test_clashes_comments_suggestions_marks_aside(self):
        sight = ("text", "own", (("q", ("bold",)),), (("ann", "words", "holds", (0,), "q"),),
                 (("bob", ("put", 0, "new"), "open"),), (("ann", 0),))
        self.assertEqual(index((sight,)), (("q", ((0, 0, ("", 0)),)),))

    def test_empty(self):
        self.assertEqual(index(()), ())
        self.assertEqual(index((text(""), rows(), tree())), ())
        self.assertEqual(spots_of((), "ab"), ())

    def test_alone_at_the_front_and_at_the_end(self):
        self.assertEqual(index((text("ab"),)), (("ab", ((0, 0, ("", 0)),)),))
        self.assertEqual(index((text(" ab"),)), (("ab", ((0, 1, ("", 0)),)),))
        self.assertEqual(index((text("ab "),)), (("ab", ((0, 0, ("", 0)),)),))
        self.assertEqual(index((text("1ab1"),)), (("ab", ((0, 1, ("", 0)),)),))
        self.assertEqual(index((text("AB a"),)), (("a", ((0, 3, ("", 0)),)),))

    def test_long_rows_of_letters_are_one_word(self):
        self.assertEqual(index((text("x" * 30),)), (("x" * 30, ((0, 0, ("", 0)),)),))

    def test_words_do_not_go_on_in_the_next_value(self):
        view = (rows((("a", "one", ()), ("b", "two", ()))), text("th"), text("ree"))
        self.assertEqual([word for word, _ in index(view)], ["one", "ree", "th", "two"])

    def test_signs_on_either_side_of_the_letters(self):
        self.assertEqual(index((text("`ab{"),)), (("ab", ((0, 1, ("", 0)),)),))
        self.assertEqual(index((text("az"),)), (("az", ((0, 0, ("", 0)),)),))

    def test_tuples(self):
        for word, spots in index(VIEW):
            self.assertIs(type(spots), tuple)
        self.assertIs(type(index(VIEW)), tuple)
        self.assertIs(type(spots_of(VIEW, "ab")), tuple)


if __name__ == "__main__":
    unittest.main()
