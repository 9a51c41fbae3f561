import unittest

from coeditry.naming import things_of
from tests.samples import ANN0, ANN1, BOB0, NAME0, NAME1, WHATS


class NamingTest(unittest.TestCase):
    def things(self, what):
        deed = ("cy", 0, 5, (("ann", 2), ("bob", 1)), what)
        told = things_of(deed)
        self.assertIs(type(told), tuple)
        self.assertEqual(things_of(deed=deed), told)
        return told

    def test_each_word(self):
        for what, _, things in WHATS:
            self.assertEqual(self.things(what), things, what)

    def test_with_none_and_without(self):
        self.assertEqual(self.things(("put", ANN0, None, "x")), ())
        self.assertEqual(self.things(("put", ANN0, NAME0, "x")), (NAME0,))
        self.assertEqual(self.things(("node", ANN0, None, "x")), ())
        self.assertEqual(self.things(("node", ANN0, BOB0, "x")), (BOB0,))
        self.assertEqual(self.things(("move", ANN0, ANN1, None)), (ANN1,))
        self.assertEqual(self.things(("move", ANN0, BOB0, ANN1)), (BOB0, ANN1))
        self.assertEqual(self.things(("mark", ANN0, None)), ())
        self.assertEqual(self.things(("mark", ANN0, NAME0)), (NAME0,))
        self.assertEqual(self.things(("mark", ANN0, BOB0)), (BOB0,))

    def test_say_on_names_and_on_a_key(self):
        self.assertEqual(self.things(("say", ANN0, (NAME0, NAME1), "x")), (NAME0, NAME1))
        self.assertEqual(self.things(("say", ANN0, BOB0, "x")), (BOB0,))

    def test_both_inners(self):
        self.assertEqual(self.things(("suggest", ANN0, ("put", None, "x"))), ())
        self.assertEqual(self.things(("suggest", ANN0, ("put", NAME1, "x"))), (NAME1,))
        self.assertEqual(self.things(("suggest", ANN0, ("cut", (NAME0, NAME1)))), (NAME0, NAME1))

    def test_the_document_is_none_of_them(self):
        self.assertEqual(self.things(("row", ANN0)), ())
        self.assertEqual(self.things(("give", ANN0, "bob", "own")), ())
        self.assertEqual(self.things(("set", ANN0, ANN0, "cost", 1)), (ANN0,))


if __name__ == "__main__":
    unittest.main()
