import random
import unittest

from coeditry.errors import CoeditError, HouseError, NoText, PaperError, TextError
from coeditry.lines import shown_book, shown_deed, shown_version, shown_what
from coeditry.readings import read_book, read_deed, read_version, read_what
from coeditry.tokens import words_of
from tests.naive import BOOKS
from tests.samples import ANN0, ANN1, BOOK, NAME0, NAME1, WHATS

VERSIONS = [(), (("ann", 1),), (("ann", 2), ("bob", 1)), (("a", 999999999999), ("abcdefgh", 10), ("b", 100000000000))]

# Texts that write no WHAT, each with the first word that can't stand.
NO_WHATS = [
    ("", 0), ("-", 0), (" ", 0), ("  ", 0), (" row ann.0", 0), ("- ", 0), ("'", 0), ("'row ann.0", 0), ("Row ann.0", 0),
    ("rows", 0), ("type", 0), ("row,", 0), ("\n", 0), ("row\n", 0),
    ("open", 1), ("open ", 1), ("open txt", 1), ("open Text", 1), ("open -", 1), ("open text ", 2), ("open text x", 2),
    ("open text 'a b c", 2), ("open 'text and more", 1), ("open  text", 1),
    ("row", 1), ("row ", 1), ("row ann", 1), ("row ann.", 1), ("row .0", 1), ("row ann.00", 1), ("row ann.01", 1),
    ("row ann.-1", 1), ("row ann.+1", 1), ("row ann.0.0", 1), ("row Ann.0", 1), ("row abcdefghi.0", 1), ("row -", 1),
    ("row ann.1234567890123", 1), ("row ann.0\n", 1), ("row ann,0", 1), ("row ann.0 ", 2), ("row ann.0  ", 2),
    ("row ann.0 ann.1", 2), ("row ann.0 -", 2), ("row ann.0 'and the rest", 2), ("row ann.0x", 1),
    ("give ann.0", 2), ("give ann.0 bob", 3), ("give ann.0 Bob own", 2), ("give ann.0 bob all", 3),
    ("give ann.0 own bob", 3), ("give ann.0 bob 'own it", 3), ("give ann.0 bob own own", 4), ("give bob own", 1),
    ("put ann.0", 2), ("put ann.0 -", 3), ("put ann.0 - ", 3), ("put ann.0 - ab", 3), ("put ann.0 - '", 3),
    ("put ann.0 - 'abcdefghijklm", 3), ("put ann.0 -  'ab", 3), ("put ann.0 ann.1 'ab", 2), ("put ann.0 'ab", 2),
    ("put ann.0 ann.1.0,ann.1.1 'ab", 2), ("put - - 'ab", 1), ("put ann.0 - 'a\n", 3), ("put ann.0 'x - 'ab", 2),
    ("put ann.0 ann.1.1234567890123 'ab", 2), ("put ann.0 ann.1.00 'ab", 2), ("put ann.0 -- 'ab", 2),
    ("cut ann.0", 2), ("cut ann.0 -", 2), ("cut ann.0 ann.1", 2), ("cut ann.0 ann.1.0,", 2), ("cut ann.0 ,ann.1.0", 2),
    ("cut ann.0 ann.1.0,,ann.1.1", 2), ("cut ann.0 ann.1.1,ann.1.0", 2), ("cut ann.0 ann.1.0,ann.1.0", 2),
    ("cut ann.0 ann.10.0,ann.9.0", 2), ("cut ann.0 ann.1.0 ann.1.1", 3), ("cut ann.0 ann.1.0,-", 2),
    ("cut ann.0 ann.1.0, ann.1.1", 2), ("cut ann.0 bob.0.0,ann.0.0", 2),
    ("look ann.0 ann.1.0", 3), ("look ann.0 ann.1.0 bold", 4), ("look ann.0 ann.1.0 bold -", 4),
    ("look ann.0 ann.1.0 bold True", 4), ("look ann.0 ann.1.0 bold 1", 4), ("look ann.0 ann.1.0 Bold +", 3),
    ("look ann.0 ann.1.0 bold + /", 5), ("look ann.0 ann.1 bold +", 2), ("look ann.0 ann.1.0 bold ++", 4),
    ("set ann.0 ann.1", 3), ("set ann.0 ann.1 cost", 4), ("set ann.0 ann.1 cost -", 4), ("set ann.0 ann.1 cost -0", 4),
    ("set ann.0 ann.1 cost 07", 4), ("set ann.0 ann.1 cost -07", 4), ("set ann.0 ann.1 cost +7", 4),
    ("set ann.0 ann.1 cost 1234567890123", 4), ("set ann.0 ann.1 cost -1234567890123", 4),
    ("set ann.0 ann.1 cost --7", 4), ("set ann.0 ann.1 cost 7 ", 5), ("set ann.0 ann.1 cost 7 8", 5),
    ("set ann.0 ann.1 cost ab", 4), ("set ann.0 ann.1 cost '", 4), ("set ann.0 ann.1 cost 'abcdefghijklm", 4),
    ("set ann.0 ann.1 cost True", 4), ("set ann.0 ann.1 7 7", 3), ("set ann.0 - cost 7", 2),
    ("set ann.0 ann.1 cost 7\n", 4), ("set ann.0 ann.1 cost 1_0", 4), ("set ann.0 ann.1 cost \u00b2", 4),
    ("drop ann.0", 2), ("drop ann.0 -", 2), ("drop ann.0 ann.1.0", 2), ("drop ann.0 ann.1 ann.2", 3),
    ("node ann.0 -", 3), ("node ann.0 - -", 3), ("node ann.0 - 'leaf", 3), ("node ann.0 ann.1.0 leaf", 2),
    ("node ann.0 - leaf leaf", 4), ("move ann.0 -", 2), ("move ann.0 - ann.1", 2), ("move ann.0 ann.1", 3),
    ("move ann.0 ann.1 - -", 4), ("move ann.0 ann.1 ann.1.0", 3),
    ("say ann.0 ann.1", 3), ("say ann.0 ann.1 '", 3), ("say ann.0 - 'x", 2), ("say ann.0 ann.1 x", 3),
    ("say ann.0 ann.1 '" + "x" * 41, 3), ("say ann.0 ann.1,ann.2 'x", 2), ("say ann.0 ann.1.1,ann.1.0 'x", 2),
    ("close ann.0", 2), ("close ann.0 -", 2), ("close ann.0 ann.1 -", 3), ("take ann.0 -", 2), ("refuse ann.0", 2),
    ("suggest", 1), ("suggest ann.0", 2), ("suggest ann.0 row", 2), ("suggest ann.0 -", 2), ("suggest ann.0 put", 3),
    ("suggest ann.0 put -", 4), ("suggest ann.0 put - x", 4), ("suggest ann.0 put ann.1 'x", 3),
    ("suggest ann.0 put ann.0 - 'x", 3), ("suggest ann.0 cut", 3), ("suggest ann.0 cut ann.1", 3),
    ("suggest ann.0 cut ann.1.0 x", 4), ("suggest put - 'x", 1), ("suggest ann.0 'put - 'x", 2),
    ("mark ann.0", 2), ("mark ann.0 - -", 3), ("mark ann.0 ann", 2), ("mark ann.0 ann.1.0.0", 2),
    ("mark ann.0 ann.1.0,ann.1.1", 2), ("undo ann.0 -", 2), ("undo ann.0", 2), ("redo ann.0 ann.1.0", 2),
]

NO_VERSIONS = [
    ("", 0), (" ", 0), ("- ", 0), (" -", 0), ("- -", 0), ("- ann:1", 0), ("--", 0), ("ann:1 -", 1), ("ann:1 ", 1),
    (" ann:1", 0), ("ann:1  bob:1", 1), ("ann:0", 0), ("ann:01", 0), ("ann:-1", 0), ("ann:", 0), (":1", 0), ("ann", 0),
    ("ann:1:1", 0), ("ann.1", 0), ("Ann:1", 0), ("abcdefghi:1", 0), ("ann:1234567890123", 0), ("ann:1,bob:1", 0),
    ("bob:1 ann:1", 1), ("ann:1 ann:1", 1), ("ann:1 ann:2", 1), ("ann:2 ann:1", 1), ("ann:1 bob:1 bob:2", 2),
    ("ann:1 cy:1 bob:1 zz", 2), ("ann:1 bob", 1), ("ann:1 'bob:1 cy:1", 1), ("'ann:1", 0), ("ann:1\n", 0), ("\n", 0),
    ("ann:+1", 0), ("ann: 1", 0), ("-\n", 0),
]

NO_DEEDS = [
    ("", 0), ("-", 0), (" ", 0), ("ann.0", 1), ("ann.0 0", 2), ("ann.0 0 -", 3), ("ann.0 0 - ", 3), ("ann.0 0 - open", 4),
    ("ann.0 0 - open text x", 5), ("ann.0 0 - open text ", 5), ("ann 0 - open text", 0), ("ann.0.0 0 - open text", 0),
    ("ann.00 0 - open text", 0), ("ann.0 -1 - open text", 1), ("ann.0 00 - open text", 1), ("ann.0 x - open text", 1),
    ("ann.0 - - open text", 1), ("ann.0 1234567890123 - open text", 1), ("ann.1234567890123 0 - open text", 0),
    ("ann.0 0 open text", 2), ("ann.0 0 -, open text", 2), ("ann.0 0 ann:1, open text", 2),
    ("ann.0 0 ,ann:1 open text", 2), ("ann.0 0 ann:1,- open text", 2), ("ann.0 0 -,ann:1 open text", 2),
    ("ann.0 0 ann:0 open text", 2), ("ann.0 0 bob:1,ann:1 open text", 2), ("ann.0 0 ann:1,ann:2 open text", 2),
    ("ann.0 0 ann:1 bob:1 open text", 3), ("ann.0 0 - - open text", 3), ("ann.0 0 - row", 4), ("ann.0 0 - row -", 4),
    ("ann.0 0  open text", 2), ("ann.0 0 - put ann.0 - x", 6), ("ann.0 0 - put ann.0 -", 6), ("'ann.0 0 - open text", 0),
    ("ann.0 '0 - open text", 1), ("ann.0 0 'ann:1 open text", 2), ("ann.0 0 - suggest ann.0 put", 6),
    ("ann.0 0 - 'open text", 3), ("ann.0 0 - open text\n", 4),
]

NO_BOOKS = [
    ("\n", 0, 0), ("\n\n", 0, 0), (" ", 0, 0), ("-", 0, 0), ("-\n", 0, 0), ("ann.0 0 - open text\n\n", 1, 0),
    ("ann.0 0 - open text\n\nann.1 0 ann:1 open text", 1, 0), ("\nann.0 0 - open text", 0, 0),
    ("ann.0 0 - open text\nann.1 1 ann:1 row", 1, 4), ("ann.0 0 - open\nann.1 1 ann:1 row", 0, 4),
    ("ann.0 0 - open text\n ", 1, 0), ("ann.0 0 - open text\nann.1 1 ann:1 put ann.0 - 'a\nb", 2, 0),
    ("ann.0 0 - open text \n", 0, 5),
    ("ann.0 1 - open text", 1, 0), ("ann.1 0 ann:1 open text", 1, 0), ("ann.0 0 ann:1 open text\n", 1, 0),
    ("ann.0 0 - open text\nann.0 0 - open text", 2, 0), ("bob.0 0 - open text\nann.0 0 - open text\n", 2, 0),
    ("ann.0 0 - open text\nbob.0 0 ann:1 row ann.0", 2, 0), ("ann.0 0 bob:999999999999 open text", 1, 0),
    ("ann.0 1 - open text\nann.1 1 ann:1 row ann.0 ", 1, 5),
]


class ReadingsTest(unittest.TestCase):
    def refused(self, read, text, due_line, due_word, **named):
        with self.assertRaises(NoText) as caught:
            read(text, **named)
        error = caught.exception
        self.assertEqual((error.line, error.word), (due_line, due_word), text)
        self.assertIsInstance(error, TextError)
        self.assertIsInstance(error, CoeditError)
        self.assertNotIsInstance(error, (PaperError, HouseError))

    def no(self, read, texts):
        for text, word in texts:
            self.refused(read, text, 0, word)
            self.refused(read, text, 0, word, line=0)
            self.refused(read, text, 7, word, line=7)
            self.refused(read, text, 10 ** 199, word, line=10 ** 199)
        with self.assertRaises(TypeError):
            read(texts[0][0], 0)

    def alike(self, one, other):
        self.assertEqual(repr(one), repr(other))

    def test_words(self):
        for row, words in (("", [""]), (" ", ["", ""]), ("a b", ["a", "b"]), ("a  b ", ["a", "", "b", ""]),
                           ("a 'b c", ["a", "'b c"]), ("'a b 'c", ["'a b 'c"]), (" 'a 'b", ["", "'a 'b"]),
                           ("a 'b 'c ", ["a", "'b 'c "]), ("it's so", ["it's", "so"]), ("a '", ["a", "'"])):
            self.assertEqual(words_of(row), words)

    def test_each_what(self):
        for what, text, _ in WHATS:
            self.alike(read_what(text), what)
            self.alike(read_what(line=3, text=text), what)
            self.alike(read_what(shown_what(what)), what)

    def test_no_whats(self):
        self.no(read_what, NO_WHATS)

    def test_the_edges_of_whats(self):
        for text, what in (
                ("put ann.0 - ''", ("put", ANN0, None, "'")),
                ("put ann.0 - ' 'x ", ("put", ANN0, None, " 'x ")),
                ("put ann.0 - '-", ("put", ANN0, None, "-")),
                ("set ann.0 ann.1 cost 'ann.0", ("set", ANN0, ANN1, "cost", "ann.0")),
                ("set ann.0 ann.1 cost 123456789012", ("set", ANN0, ANN1, "cost", 123456789012)),
                ("set ann.0 ann.1 cost -123456789012", ("set", ANN0, ANN1, "cost", -123456789012)),
                ("set ann.0 ann.1 own 0", ("set", ANN0, ANN1, "own", 0)),
                ("row ann.123456789012", ("row", ("ann", 123456789012))),
                ("cut ann.0 ann.9.0,ann.10.0", ("cut", ANN0, ((("ann", 9), 0), (("ann", 10), 0)))),
                ("say ann.0 ann.1.0,ann.1.1 'x", ("say", ANN0, (NAME0, NAME1), "x")),
                ("say ann.0 ann.1 'x", ("say", ANN0, ANN1, "x")),
                ("say ann.0 ann.1.0 'x", ("say", ANN0, (NAME0,), "x"))):
            self.alike(read_what(text), what)
            self.assertEqual(shown_what(what), text)

    def test_versions(self):
        for version in VERSIONS:
            self.alike(read_version(shown_version(version)), version)
        self.assertEqual(read_version("-"), ())
        self.assertEqual(read_version(line=4, text="ann:1 bob:12"), (("ann", 1), ("bob", 12)))

    def test_no_versions(self):
        self.no(read_version, NO_VERSIONS)

    def test_deeds(self):
        for what, _, _ in WHATS:
            for version in VERSIONS:
                for n, count in ((0, 0), (12, 999999999999)):
                    deed = ("cy", n, count, version, what)
                    self.alike(read_deed(shown_deed(deed)), deed)
                    self.alike(read_deed(line=1, text=shown_deed(deed)), deed)
        self.assertEqual(read_deed("ann.1 1 ann:1 put ann.0 - 'ab"), BOOK[1][:3] + ((("ann", 1),),
                         ("put", ANN0, None, "ab")))

    def test_no_deeds(self):
        self.no(read_deed, NO_DEEDS)

    def test_books(self):
        for book in BOOKS + [BOOK, BOOK[:1]]:
            text = shown_book(book)
            self.alike(read_book(text), book)
            self.alike(read_book(text=text), book)
            if book:
                self.alike(read_book(text + "\n"), book)
                self.refused(read_book, text + "\n\n", len(book), 0)
                self.refused(read_book, text + "\n ", len(book), 0)

    def test_no_books(self):
        self.assertEqual(read_book(""), ())
        for text, line, word in NO_BOOKS:
            self.refused(read_book, text, line, word)

    def test_every_line_of_a_book(self):
        for at in range(len(BOOK)):
            for text, word in NO_DEEDS:
                if "\n" not in text:
                    lines = shown_book(BOOK).split("\n")
                    lines[at] = text
                    if at < len(BOOK) - 1 or text:
                        self.refused(read_book, "\n".join(lines), at, word)

    def test_each_text_is_read_as_what_it_writes_or_refused(self):
        """A word changed by chance: what is read is written as the same text, else a word within is told."""
        chance = random.Random(5)
        read = 0
        for _ in range(6000):
            text = chance.choice(WHATS)[1]
            at = chance.randrange(len(text) + 1)
            text = text[:at] + chance.choice(["", " ", "-", "'", "0", ".", ",", "a", "+"]) + \
                text[at + chance.choice([0, 1]):]
            try:
                self.assertEqual(shown_what(read_what(text)), text)
                read += 1
            except NoText as error:
                self.assertLessEqual(error.word, text.count(" ") + 1)
        self.assertGreater(read, 500)


if __name__ == "__main__":
    unittest.main()
