import random
import unittest

from coeditry.desk import Desk
from coeditry.errors import HouseError, NoBack, NoCopy, NoKey, NoLine, TextError
from coeditry.house import House
from coeditry.lines import shown_what
from coeditry.living import shown_text
from coeditry.sights import seen_by
from tests.chance import a_house
from tests.samples import WHATS
from tests.story import Refusing

DOC = "make ann open text | make ann put ann.0 - 'so it is"

# Rows of no form, whatever house there is.
NO_ROWS = [
    "", " ", "-", "'", "|", " | ", "steps ", " steps", "steps 1", "step", "Steps", "letters x", "letters ", "letter",
    "steps | letters", "steps\n", "\n", "back ", "back  1", " back", "back -1", "back 01", "back x", "back 1 2", "back -",
    "back 1000000000000", "back 0000000000001", "back +1", "back 1.0", "back '1", "back all",
    "book", "book ", "book ann bob", "book Ann", "book an3", "book  ann", "book abcdefghi", "book -", "book ann ",
    "book 'ann", "book ann.0", "waiting", "waiting ann x", "waiting Ann", "sees", "sees ann bob", "sees ", "sees 0",
    "find", "find ", "find ann", "find  ann", "find Ann x", "find  x", "find 'ann x", "finds ann x", " find ann x",
    "text", "text ann", "text ann ", "text ann ann", "text ann ann.0 x", "text ann ann.00", "text ann ann.0.0",
    "text ann -", "text Ann ann.0", "text ann 'ann.0", "text ann  ann.0", "text ann ann.0 ", "text ann ann.x",
    "text ann ann.1000000000000", "text ann ann.0,ann.1", "text ann.0", "text ann .0",
    "do", "do ", "all", "all ", "do -", "all '", "do | come 0", "do come 0 | ", "do come 0 |", "do come 0 | | come 0",
    "do  come 0", "do come 0 ", "do come  0", "do come", "do come 0 0", "do come -1", "do come 01", "do come x",
    "do come 1000000000000", "do come ann", "do again", "do again 0 1", "do lose", "do lose +", "do lose '0",
    "do send", "do send ann", "do send ann bob cy", "do send Ann bob", "do send ann  bob", "do send ann bob ",
    "do send ann 0", "do send - bob", "do send ann 'bob", "do make", "do make ann", "do make ann ", "do make ann open",
    "do make ann open Text", "do make ann open text x", "do make Ann open text", "do make  open text",
    "do make ann  open text", "do make ann open  text", "do make ann open text ", "do make ann -", "do make ann '",
    "do make 'ann open text", "do make ann put ann.0 - ab", "do make ann put ann.0 - '", "do make ann row",
    "do make ann put ann.0 - 'abcdefghijklm", "do make ann put ann.0 -  'a", "do make ann put ann.00 - 'a",
    "do make ann set ann.0 ann.1 cost 01", "do make ann set ann.0 ann.1 cost 1000000000000",
    "do make ann cut ann.0 ann.1.1,ann.1.0", "do make ann put ann.0 - 'a\n", "do make ann put ann.0 - 'a | b",
    "do all come 0", "do do come 0", "all all come 0", "do all", "all do", "do back", "do back 1", "do steps",
    "do come 0 | all come 0", "do come 0 | back", "do come 0|come 0", "do come 0 |come 0", "do come 0 | come",
    "come 0", "make ann open text", "send ann bob", "lose 0", "again 0", "do open ann", "do come 0\n",
    "Do come 0", "do\tcome 0", "do come 0 |  come 0", "all make ann open text |  make ann open text",
]

# Opens of no form.
NO_OPENS = [
    "open", "open ", "open ann ", "open  ann", " open ann", "open bob ann", "open ann ann", "open ann bob cy dan eve",
    "open Ann", "open ann Bob", "open ann,bob", "open ann  bob", "open ann 0", "open 'ann", "open abcdefghi", "open -",
    "open ann | bob", "open ann\n", "open ann bob ann", "Open ann",
]

GOOD = ["steps", "letters", "back", "back 1", "back 0", "back 999999999999", "book ann", "waiting ann", "sees ann",
        "find ann x", "find ann ", "text ann ann.0", "do come 0", "all come 0", "do " + DOC, "all " + DOC,
        "do send ann bob", "book zz", "text zz ann.0"]


class DeskTest(Refusing):
    def setUp(self):
        self.desk = Desk()
        self.desk.say("open ann bob cy")

    def say(self, row, due):
        """Answered so, and one row more is counted."""
        begun, ended = self.desk.counts()
        self.same(self.desk.say(row), due)
        self.same(self.desk.counts(), (begun + 1, ended + 1))

    def caught_by(self, error, family, row):
        begun, ended = self.desk.counts()
        told = self.caught(error, family, self.desk.say, (row,), {})
        self.same(self.desk.counts(), (begun + 1, ended + 1))
        return told

    def no_line(self, row):
        self.assertIs(self.caught_by(NoLine, TextError, row).line, row)

    def no_copy(self, row, hand):
        self.same(self.caught_by(NoCopy, HouseError, row).hand, hand)

    def no_back(self, row, times):
        self.same(self.caught_by(NoBack, HouseError, row).times, times)

    def no_key_of(self, row, key):
        self.same(self.caught_by(NoKey, HouseError, row).key, key)

    def no_deed_of(self, row, word):
        begun, ended = self.desk.counts()
        self.no_deed(word, self.desk.say, row)
        self.same(self.desk.counts(), (begun + 1, ended + 1))


class FormsTest(DeskTest):
    def test_rows_of_no_form(self):
        for row in NO_ROWS + NO_OPENS:
            self.no_line(row)
        self.say("steps", "0")

    def test_without_a_house(self):
        self.desk = Desk()
        for row in NO_ROWS + NO_OPENS + GOOD:
            self.no_line(row)
        self.say("open ann", "ok")
        for row in NO_ROWS + NO_OPENS:
            self.no_line(row)
        self.say("steps", "0")

    def test_the_samples_have_a_form(self):
        self.say("do " + DOC, "2")
        for row in GOOD:
            try:
                self.desk.say(row)
            except NoLine:
                self.fail(row)
            except ValueError:
                pass

    def test_the_very_row(self):
        row = "".join(["st", "ep"])
        self.no_line(row)

    def test_ahead_of_all_else(self):
        for row in ("do make zz open texts", "do send zz yy x", "do come 7 | x", "book Zz", "text zz ann.x", "back 0 0"):
            self.no_line(row)

    def test_any_text(self):
        chance = random.Random(4)
        signs = "abn0'| -.\n,:+/"
        for _ in range(400):
            row = "".join(chance.choice(signs) for _ in range(chance.randrange(12)))
            self.no_line(row)


class DoingTest(DeskTest):
    def test_open(self):
        for row in ("open ann", "open ann bob", "open ann bob cy dan", "open a abcdefgh", "open text", "open bob"):
            self.say(row, "ok")
            self.say("steps", "0")
        self.say("book bob", "-")
        self.no_copy("book ann", "ann")

    def test_open_anew(self):
        self.say("do " + DOC, "2")
        self.say("book ann", "ann.0 ann.1")
        self.say("open ann bob", "ok")
        self.say("book ann", "-")
        self.say("steps", "0")
        self.no_copy("book cy", "cy")
        self.no_line("open bob ann")
        self.say("book bob", "-")

    def test_do(self):
        self.say("do make ann open text", "1")
        self.say("do make ann put ann.0 - 'ab | send ann bob | come 0 | again 0 | send bob cy | lose 0", "6")
        self.say("steps", "7")
        self.say("letters", "0")
        self.say("text ann ann.0", "'ab")
        self.say("book bob", "ann.0 ann.1")
        self.say("book cy", "-")

    def test_do_each_what(self):
        for at, (what, text, _) in enumerate(WHATS):
            self.say(f"do make ann {text}", "1")
            self.assertEqual(shown_what(what), text)
        self.say("book ann", " ".join(f"ann.{n}" for n in range(at + 1)))

    def test_do_more_than_the_limit(self):
        self.say("do " + " | ".join(["send ann bob"] * 230), "230")
        self.say("letters", "230")
        self.say("steps", "230")

    def test_do_refused_in_its_middle(self):
        self.no_deed_of("do make ann open text | come 0 | make ann open rows", "letter")
        self.say("book ann", "ann.0")
        self.say("steps", "1")
        self.no_copy("do make ann open text | make zz open text | come 7", "zz")
        self.say("steps", "2")
        self.no_deed_of("do send ann ann", "letter")
        self.no_copy("do send zz zz", "zz")
        self.no_line("do make ann open text | come")
        self.say("steps", "2")

    def test_all(self):
        self.say("all make ann open text", "ok")
        self.say("all make ann put ann.0 - 'ab | send ann bob | come 0", "ok")
        self.say("steps", "2")
        self.say("book bob", "ann.0 ann.1")
        self.no_deed_of("all make ann open text | come 0", "letter")
        self.no_copy("all make ann open text | send ann zz", "zz")
        self.say("book ann", "ann.0 ann.1")
        self.say("steps", "2")

    def test_parted_from_the_left_ahead_of_all_else(self):
        self.say("do " + DOC, "2")
        self.say("do make ann put ann.0 - 'a|b", "1")
        self.say("do make ann put ann.0 - '|", "1")
        self.say("do make ann put ann.0 - 'a |", "1")
        self.say("do make ann put ann.0 - '| a", "1")
        self.no_line("do make ann put ann.0 - 'a | b")
        self.say("do make ann put ann.0 - 'x  | make ann put ann.0 - 'y ", "2")
        self.say("text ann ann.0", "'y x | aa ||a|bso it is")
        self.say("do make ann put ann.0 - 'z | make ann put ann.0 - '  w", "2")
        self.say("text ann ann.0", "'  wzy x | aa ||a|bso it is")

    def test_back(self):
        self.say("do " + DOC + " | send ann bob | come 0 | make bob open rows", "5")
        self.say("book bob", "ann.0 ann.1 bob.0")
        self.say("back", "4")
        self.say("back 1", "2")
        self.say("letters", "1")
        self.say("back 2", "1")
        self.say("steps", "1")
        for row, times in (("back 0", 0), ("back 2", 2), ("back 999999999999", 999999999999)):
            self.no_back(row, times)
        self.say("back", "0")
        self.no_back("back", 1)
        self.no_back("back 1", 1)
        self.no_back("back 0", 0)

    def test_back_takes_an_all_as_one(self):
        self.say("all " + DOC, "ok")
        self.say("back", "0")
        self.say("do " + DOC, "2")
        self.say("back", "1")


class TellingTest(DeskTest):
    def setUp(self):
        DeskTest.setUp(self)
        self.desk.say("do " + DOC)

    def test_keys(self):
        self.say("book ann", "ann.0 ann.1")
        self.say("do make bob open rows | send ann bob | come 0", "3")
        self.say("book bob", "ann.0 ann.1 bob.0")
        self.say("waiting bob", "-")
        self.say("sees ann", "ann.0")
        self.say("sees bob", "bob.0")
        self.say("sees cy", "-")
        self.say("do make ann give ann.0 bob see | send ann bob | come 0", "3")
        self.say("sees bob", "ann.0 bob.0")

    def test_letters(self):
        self.say("letters", "0")
        self.say("do send ann bob | send bob ann", "2")
        self.say("letters", "2")
        self.say("do lose 0", "1")
        self.say("letters", "1")

    def test_find(self):
        self.say("find ann so", "0.0")
        self.say("find ann it", "0.3")
        self.say("find ann is", "0.6")
        for text in ("", " ", "s", "so it", " so", "so ", "SO", "-", "'", "x | y", "\n", "  ", "so\n", "0"):
            self.say("find ann " + text, "-")
        self.say("find bob so", "-")

    def test_find_as_often_as_it_is_there(self):
        self.say("do make ann open rows | make ann row ann.2 | make ann set ann.2 ann.3 a 'so so | "
                 "make ann set ann.2 ann.3 b 'so | make ann put ann.0 - 'so ", "5")
        self.say("find ann so", "0.0 0.3 1.0 1.0 1.0")
        self.say("do make ann open tree | make ann node ann.7 - so | make ann node ann.7 ann.8 so", "3")
        self.say("find ann so", "0.0 0.3 1.0 1.0 1.0 2.0 2.1")

    def test_text(self):
        self.say("text ann ann.0", "'so it is")
        self.say("do make ann put ann.0 - ''a' ", "1")
        self.say("text ann ann.0", "''a' so it is")
        self.say("do make ann open text", "1")
        self.say("text ann ann.3", "'")

    def test_text_of_none(self):
        self.say("do make ann open rows | make ann open tree | make bob open text", "3")
        for row, key in (("text ann ann.2", ("ann", 2)), ("text ann ann.3", ("ann", 3)), ("text ann ann.1", ("ann", 1)),
                         ("text ann ann.9", ("ann", 9)), ("text ann zz.0", ("zz", 0)), ("text ann bob.0", ("bob", 0)),
                         ("text bob ann.0", ("ann", 0)), ("text ann ann.999999999999", ("ann", 999999999999))):
            self.no_key_of(row, key)
        self.say("do send ann bob | come 0", "2")
        # bob knows it, but may not see it.
        self.no_key_of("text bob ann.0", ("ann", 0))
        self.say("text bob bob.0", "'")

    def test_hands_without_a_copy(self):
        for row in ("book zz", "waiting zz", "sees zz", "find zz so", "find zz ", "text zz ann.0", "text zz zz.9"):
            self.no_copy(row, "zz")

    def test_counts(self):
        desk = Desk()
        self.same(desk.counts(), (0, 0))
        for row in ("steps", "open b a", "open a b", "do come 0", "book zz", "back", "x", "do make a open text"):
            try:
                desk.say(row=row)
            except ValueError:
                pass
        self.same(desk.counts(), (8, 8))

    def test_two_desks(self):
        other = Desk()
        other.say("open ann bob cy")
        self.same(other.say("book ann"), "-")
        self.say("book ann", "ann.0 ann.1")


class ChanceTest(DeskTest):
    """Beside a house to which the same is told."""

    def test_beside_a_house(self):
        for seed in range(8):
            chance = random.Random(seed)
            desk, house = Desk(), House(("ann", "bob", "cy"))
            self.same(desk.say("open ann bob cy"), "ok")
            # Deeds of a whole book by chance, made anew by whoever made them, each knowing what came.
            for deed in a_house(seed, ("text", "rows", "tree")[seed % 3], many=30):
                hand, other = chance.sample(["ann", "bob", "cy"], 2)
                steps = [("make", hand, deed[4]), ("send", hand, other), ("come", 0)]
                rows = [f"make {hand} {shown_what(deed[4])}", f"send {hand} {other}", "come 0"]
                if " | " in rows[0]:
                    continue
                self.same(desk.say("do " + " | ".join(rows)), str(house.run(tuple(steps))))
                self.agrees(desk, house, chance.choice(["ann", "bob", "cy"]))
            house.back(times=7)
            self.same(desk.say("back 7"), str(sum(len(house.book(hand)) for hand in house.hands())))
            self.agrees(desk, house, "ann")

    def agrees(self, desk, house, hand):
        book = house.book(hand)

        def shown(keys):
            return " ".join(f"{one}.{n}" for one, n in keys) or "-"

        self.same(desk.say(f"book {hand}"), shown([deed[:2] for deed in book]))
        self.same(desk.say(f"waiting {hand}"), "-")
        self.same(desk.say(f"sees {hand}"), shown(seen_by(book, hand=hand)))
        self.same(desk.say("steps"), str(len(house)))
        self.same(desk.say("letters"), str(len(house.letters())))
        for text in ("a", "leaf", "two", "ab", ""):
            spots = " ".join(f"{d}.{place}" for d, place, _ in house.spots(hand, text)) or "-"
            self.same(desk.say(f"find {hand} {text}"), spots)
        for deed in book:
            key = f"{deed[0]}.{deed[1]}"
            if deed[4] == ("open", "text") and deed[:2] in seen_by(book, hand=hand):
                self.same(desk.say(f"text {hand} {key}"), "'" + shown_text(book, doc=deed[:2]))
            else:
                with self.assertRaises(NoKey):
                    desk.say(f"text {hand} {key}")


if __name__ == "__main__":
    unittest.main()
