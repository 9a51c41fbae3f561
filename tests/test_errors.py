import unittest

from coeditry.errors import (CoeditError, HouseError, NoBack, NoCopy, NoDeed, NoKey, NoLine, NoPaper, NoText,
                             PaperError, TextError)
from tests.samples import THINGS, Odd

REFUSALS = [
    (NoPaper, PaperError, ("word", "at")),
    (NoDeed, PaperError, ("word",)),
    (NoKey, HouseError, ("key",)),
    (NoCopy, HouseError, ("hand",)),
    (NoBack, HouseError, ("times",)),
    (NoText, TextError, ("line", "word")),
    (NoLine, TextError, ("line",)),
]
FAMILIES = [PaperError, HouseError, TextError]


class Shy:
    """A thing that can't be looked at."""

    def __getattribute__(self, name):
        raise AssertionError("looked at")

    __eq__ = __hash__ = __len__ = __bool__ = __repr__ = __str__ = __iter__ = __getattribute__


class ErrorsTest(unittest.TestCase):
    def test_base_and_families(self):
        self.assertEqual(CoeditError.__bases__, (ValueError,))
        for family in FAMILIES:
            self.assertEqual(family.__bases__, (CoeditError,))

    def test_each_is_straight_under_its_family(self):
        for error, family, _ in REFUSALS:
            self.assertEqual(error.__bases__, (family,))

    def test_caught_by_its_name_its_family_the_base_and_no_other(self):
        for error, family, fields in REFUSALS:
            for caught in (error, family, CoeditError, ValueError):
                with self.assertRaises(caught):
                    raise error(*fields)
            for other in FAMILIES:
                self.assertEqual(issubclass(error, other), other is family)
            for other, _, _ in REFUSALS:
                self.assertEqual(issubclass(error, other), other is error)

    def test_fields_by_places_are_the_very_things(self):
        for error, _, fields in REFUSALS:
            for thing in THINGS + [Odd(), {}]:
                told = [[thing], (thing, thing)][:len(fields)]
                made = error(*told)
                for field, one in zip(fields, told):
                    self.assertIs(getattr(made, field), one)

    def test_fields_by_names_in_any_order(self):
        for error, _, fields in REFUSALS:
            things = {field: [field] for field in reversed(fields)}
            made = error(**things)
            for field in fields:
                self.assertIs(getattr(made, field), things[field])

    def test_made_of_just_these(self):
        for error, _, fields in REFUSALS:
            with self.assertRaises(TypeError):
                error(*fields, 0)
            with self.assertRaises(TypeError):
                error(*fields[1:])
            with self.assertRaises(TypeError):
                error(**{field: 0 for field in fields}, more=0)

    def test_looks_at_nothing(self):
        for error, _, fields in REFUSALS:
            things = [Shy() for _ in fields]
            made = error(*things)
            with self.assertRaises(error):
                raise made
            for field, thing in zip(fields, things):
                self.assertTrue(getattr(made, field) is thing)


if __name__ == "__main__":
    unittest.main()
