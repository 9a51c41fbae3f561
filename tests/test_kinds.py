import unittest

from coeditry import kinds
from coeditry.kinds import (LEVELS, are_names, is_key, is_level, is_name, is_number, is_signs, is_value, is_version,
                            is_word, reaches)
from tests.samples import THINGS, Odd

SMALL_WORDS = ["a", "ann", "abcdefgh", "none", "see", "tell", "suggest", "change", "own", "text", "rows", "tree",
               "open"]
NUMBERS = [0, 1, 2, 10 ** 12, 10 ** 199]
SIGNS = SMALL_WORDS + ["abcdefghi", "abcdefghijkl", "Ann", "an3", "a b", "ann ", " ", "~", "'", "-", "7"]
KEYS = [("ann", 0), ("ann", 1), ("ann", 10 ** 199)]
NAMES = [(("ann", 0), 0)]
MANY_NAMES = [((("ann", 0), 0),), ((("ann", 0), 0), (("ann", 0), 1)), ((("ann", 9), 0), (("bob", 0), 0))]
VERSIONS = [(), (("ann", 1),), (("ann", 1), ("bob", 2)), (("ann", 10 ** 199),), (("ann", 1), ("bob", 2), ("cy", 3))]


class KindsTest(unittest.TestCase):
    def looks(self, look, fitting):
        wanted = {repr(thing) for thing in fitting}
        seen = set()
        for thing in THINGS + [Odd()]:
            told = look(thing)
            self.assertIs(told, repr(thing) in wanted, (look.__name__, thing))
            self.assertIs(look(thing=thing), told)
            seen.add(repr(thing))
        self.assertTrue(wanted <= seen)

    def test_number(self):
        self.looks(is_number, NUMBERS)

    def test_word(self):
        self.looks(is_word, SMALL_WORDS)

    def test_signs(self):
        self.looks(is_signs, SIGNS)

    def test_every_sign(self):
        for code in range(0, 300):
            self.assertIs(is_signs(chr(code)), 32 <= code <= 126 and code != 37, code)
            self.assertIs(is_word(chr(code)), 97 <= code <= 122, code)
            self.assertIs(is_signs("ab" + chr(code) + "c"), 32 <= code <= 126 and code != 37, code)

    def test_said(self):
        self.looks(kinds.is_said, SIGNS + ["abcdefghijklm", "x" * 40])

    def test_value(self):
        self.looks(is_value, NUMBERS + [-1, -7, -(10 ** 199)] + SIGNS)

    def test_key(self):
        self.looks(is_key, KEYS)

    def test_name(self):
        self.looks(is_name, NAMES)

    def test_names(self):
        self.looks(are_names, MANY_NAMES)

    def test_names_rise_by_numbers(self):
        self.assertIs(are_names((((("ann", 9), 0)), (("ann", 10), 0))), True)
        self.assertIs(are_names(((("ann", 10), 0), (("ann", 9), 5))), False)
        self.assertIs(are_names(((("ann", 0), 9), (("ann", 0), 10))), True)

    def test_level(self):
        self.looks(is_level, list(LEVELS))
        self.assertEqual(LEVELS, ("none", "see", "tell", "suggest", "change", "own"))

    def test_version(self):
        self.looks(is_version, VERSIONS)

    def test_reaches_all_two_levels(self):
        ranks = {"none": 0, "see": 1, "tell": 2, "suggest": 3, "change": 4, "own": 5}
        for one in ranks:
            for other in ranks:
                self.assertIs(reaches(one, other), ranks[one] >= ranks[other])
                self.assertIs(reaches(other=other, one=one), ranks[one] >= ranks[other])

    def test_lists_are_not_changed(self):
        thing = [["ann", 0], [0]]
        for look in (is_number, is_word, is_signs, is_value, is_key, is_name, are_names, is_level, is_version):
            self.assertIs(look(thing), False)
        self.assertEqual(thing, [["ann", 0], [0]])

    def test_forty_within_one_another(self):
        thing = "ann"
        for _ in range(40):
            thing = (thing,)
        for look in (is_number, is_word, is_signs, is_value, is_key, is_name, are_names, is_level, is_version):
            self.assertIs(look(thing), False)


if __name__ == "__main__":
    unittest.main()
