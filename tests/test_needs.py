import unittest

from coeditry.needs import needs


class NeedsTest(unittest.TestCase):
    def test_each_word(self):
        due = {"mark": "see", "say": "tell", "close": "tell", "suggest": "suggest", "give": "own"}
        for word in ("put", "cut", "look", "row", "set", "drop", "node", "move", "take", "refuse"):
            due[word] = "change"
        self.assertEqual(len(due), 15)
        for word in due:
            self.assertEqual(needs(word), due[word])
            self.assertEqual(needs(word=word), due[word])


if __name__ == "__main__":
    unittest.main()
