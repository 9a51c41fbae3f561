import unittest

from coeditry import kinds
from coeditry.whats import is_deed, is_what
from tests.samples import ANN0, ANN1, BOB0, BOOK, NAME0, NAME1, THINGS, WHATS, Odd


def is_none(thing):
    return thing is None


def is_truth(thing):
    return thing is True or thing is False


def is_sort(thing):
    return repr(thing) in ("'text'", "'rows'", "'tree'")


def is_inner(thing):
    return False


KEY, NAME, NAMES, WORD, SIGNS = [kinds.is_key], [kinds.is_name], [kinds.are_names], [kinds.is_word], [kinds.is_signs]
NONE = [is_none]
PLACES = {
    "open": [[is_sort]],
    "give": [KEY, WORD, [kinds.is_level]],
    "put": [KEY, NAME + NONE, SIGNS],
    "cut": [KEY, NAMES],
    "look": [KEY, NAMES, WORD, [is_truth]],
    "row": [KEY],
    "set": [KEY, KEY, WORD, [kinds.is_value]],
    "drop": [KEY, KEY],
    "node": [KEY, KEY + NONE, WORD],
    "move": [KEY, KEY, KEY + NONE],
    "say": [KEY, NAMES + KEY, [kinds.is_said]],
    "close": [KEY, KEY],
    "suggest": [KEY, [is_inner]],
    "take": [KEY, KEY],
    "refuse": [KEY, KEY],
    "mark": [KEY, NAME + KEY + NONE],
    "undo": [KEY, KEY],
    "redo": [KEY, KEY],
}
INNERS = {"put": [NAME + NONE, SIGNS], "cut": [NAMES]}


def with_at(thing, at, one):
    return thing[:at] + (one,) + thing[at + 1:]


class WhatsTest(unittest.TestCase):
    def no_what(self, thing):
        self.assertIs(is_what(thing), False, thing)
        self.assertIs(is_deed(("ann", 0, 0, (), thing)), False, thing)

    def test_each_word_is_tried(self):
        self.assertEqual({what[0] for what, _, _ in WHATS}, set(PLACES))

    def test_each_word(self):
        for what, _, _ in WHATS:
            self.assertIs(is_what(what), True, what)
            self.assertIs(is_what(thing=what), True, what)

    def test_a_part_out_or_a_part_more(self):
        for what, _, _ in WHATS:
            for at in range(len(what)):
                self.no_what(what[:at] + what[at + 1:])
            for more in (None, "x", ANN0, 0, True):
                self.no_what(what + (more,))

    def test_as_a_list(self):
        for what, _, _ in WHATS:
            self.no_what(list(what))
            for at, part in enumerate(what):
                if isinstance(part, tuple):
                    self.no_what(with_at(what, at, list(part)))

    def test_things_of_all_kinds_at_each_place(self):
        for what, _, _ in WHATS:
            for at, fits in enumerate(PLACES[what[0]], 1):
                for thing in THINGS + [Odd()]:
                    due = any(look(thing) for look in fits)
                    self.assertIs(is_what(with_at(what, at, thing)), due, (what, at, thing))

    def test_things_of_all_kinds_in_an_inner(self):
        for inner in (("put", None, "x"), ("put", NAME0, "x"), ("cut", (NAME0, NAME1))):
            for at, fits in enumerate(INNERS[inner[0]], 1):
                for thing in THINGS + [Odd()]:
                    due = any(look(thing) for look in fits)
                    self.assertIs(is_what(("suggest", ANN0, with_at(inner, at, thing))), due)
            self.no_what(("suggest", ANN0, list(inner)))
            self.no_what(("suggest", ANN0, inner + (0,)))
            self.no_what(("suggest", ANN0, inner[:-1]))

    def test_an_inner_is_a_put_or_a_cut_without_document(self):
        for what, _, _ in WHATS:
            self.no_what(("suggest", ANN0, what))
        self.no_what(("suggest", ANN0, ("look", (NAME0,), "bold", True)))
        self.no_what(("suggest", ANN0, ()))
        self.no_what(("suggest", ANN0, ("row",)))

    def test_things_as_the_word(self):
        for thing in THINGS + [Odd(), [], {}]:
            self.no_what((thing, ANN0))
            self.no_what((thing,))
            self.no_what(thing)

    def test_parts_exchanged(self):
        self.no_what((ANN0, "row"))
        self.no_what(("give", ANN0, "own", "bob"))
        self.no_what(("put", None, ANN0, "x"))
        self.no_what(("put", ANN0, "x", None))
        self.no_what(("node", None, ANN0, "leaf"))
        self.no_what(("move", ANN0, None, BOB0))
        self.no_what(("set", ANN0, "cost", ANN1, 7))
        self.no_what(("look", ANN0, (NAME0,), True, "bold"))
        self.no_what(("say", ANN0, "x", ANN1))
        self.no_what(("suggest", ("put", None, "x"), ANN0))

    def test_truths_are_no_numbers(self):
        self.no_what(("set", ANN0, ANN1, "cost", True))
        self.no_what(("look", ANN0, (NAME0,), "bold", 1))
        self.no_what(("look", ANN0, (NAME0,), "bold", 0))
        self.no_what(("row", ("ann", False)))

    def test_words_of_a_say_are_longer_than_signs(self):
        self.assertIs(is_what(("say", ANN0, ANN1, "x" * 40)), True)
        self.no_what(("say", ANN0, ANN1, "x" * 41))
        self.no_what(("say", ANN0, ANN1, ""))
        self.no_what(("say", ANN0, ANN1, "a\nb"))
        self.no_what(("put", ANN0, None, "abcdefghijklm"))


class DeedsTest(unittest.TestCase):
    def test_each_what(self):
        for what, _, _ in WHATS:
            self.assertIs(is_deed(("ann", 0, 0, (), what)), True)
            self.assertIs(is_deed(thing=("ann", 10 ** 199, 10 ** 199, (("bob", 10 ** 199),), what)), True)

    def test_of_a_book(self):
        for deed in BOOK:
            self.assertIs(is_deed(deed), True)
            self.assertIs(is_deed(list(deed)), False)
            for at in range(5):
                self.assertIs(is_deed(deed[:at] + deed[at + 1:]), False)
                self.assertIs(is_deed(deed + (deed[at],)), False)
            for at in (3, 4):
                self.assertIs(is_deed(with_at(deed, at, list(deed[at]))), False)

    def test_things_of_all_kinds_at_each_place(self):
        looks = [kinds.is_word, kinds.is_number, kinds.is_number, kinds.is_version, is_what]
        for at, look in enumerate(looks):
            for thing in THINGS + [Odd()]:
                self.assertIs(is_deed(with_at(BOOK[1], at, thing)), look(thing), (at, thing))

    def test_things_that_are_none(self):
        for thing in THINGS + [Odd(), BOOK, BOOK[0][4]]:
            self.assertIs(is_deed(thing), False)

    def test_knew_is_looked_at_by_kind_alone(self):
        self.assertIs(is_deed(("ann", 0, 5, (("ann", 7),), ("row", ANN0))), True)
        self.assertIs(is_deed(("ann", 3, 5, (), ("row", ANN0))), True)

    def test_nothing_is_changed(self):
        thing = ["ann", 0, 0, [], ["row", ["ann", 0]]]
        self.assertIs(is_deed(thing), False)
        self.assertIs(is_what(thing[4]), False)
        self.assertEqual(thing, ["ann", 0, 0, [], ["row", ["ann", 0]]])


if __name__ == "__main__":
    unittest.main()
