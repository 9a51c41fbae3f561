import random
import unittest

from coeditry.books import is_book
from coeditry.copies import Copy
from coeditry.errors import HouseError, NoBack, NoCopy
from coeditry.house import LIMIT, House
from coeditry.sights import seen_by
from coeditry.views import view
from coeditry.words import spots_of
from tests.chance import WORDS, Chance
from tests.samples import THINGS, WHATS, Odd, like
from tests.story import Refusing

OPEN = ("make", "ann", ("open", "text"))
PUT = ("make", "ann", ("put", ("ann", 0), None, "so it is"))
GIVE = ("make", "ann", ("give", ("ann", 0), "bob", "change"))

# Things that are no STEPS by kind.
NO_STEPS = THINGS + [
    Odd(), ("make",), ("make", "ann"), ("make", "Ann", ("open", "text")), ("make", "ann", ("open", "x")),
    ("make", "ann", "open text"), ("make", ("ann",), ("open", "text")), ("make", "ann", ["open", "text"]),
    list(OPEN), OPEN + (0,), ("send", "ann"), ("send", "ann", "bob", "cy"), ("send", "ann", 0), ("send", "", "bob"),
    ("send", ("ann", "bob")), ("come",), ("come", -1), ("come", True), ("come", "0"), ("come", None), ("come", 0, 0),
    ("again", False), ("again", -1), ("lose", ()), ("lose",), ("back", 1), ("steps",), (OPEN,), ((),), ("all",),
    ("all", []), ("all", OPEN), ("all", OPEN, OPEN), ("all", None), ("Make", "ann", ("open", "text")), (0, "ann"),
    ("make", "ann", WHATS[0][0], None), [], ("all", [OPEN]), (None, "ann", ("open", "text")), (["make"], "ann"),
]


def state(house):
    """All that a house tells, but its counts."""
    told = [house.hands(), house.steps(), house.letters(), len(house), str(house)]
    for hand in house.hands():
        told += [house.book(hand), house.waiting(hand), house.view(hand), house.spots(hand, "so")]
    return tuple(told)


class HouseTest(Refusing):
    def setUp(self):
        self.house = House(("ann", "bob", "cy"))

    def do(self, *steps):
        return [self.house.step(step) for step in steps]

    def told(self, step, due):
        self.same(self.house.step(step), due)

    def refused(self, check, step, *more):
        """Refused so, and all is as it was, but the counts."""
        was, counts, twin = state(self.house), self.house.counts(), self.house
        check(*more, self.house.step, step)
        self.same(state(self.house), was)
        self.assertIs(twin, self.house)
        self.same(self.house.counts(), (counts[0] + 1, counts[1] + 1))

    def no_copy(self, hand, call, /, *handed, **named):
        self.same(self.caught(NoCopy, HouseError, call, handed, named).hand, hand)

    def no_back(self, times):
        was, counts = state(self.house), self.house.counts()
        told = self.caught(NoBack, HouseError, self.house.back, (), {"times": times}).times
        self.assertTrue(told is times)
        self.same(state(self.house), was)
        self.same(self.house.counts(), (counts[0] + 1, counts[1] + 1))


class StepsTest(HouseTest):
    def test_at_first(self):
        house = self.house
        self.same(state(house)[:5], (("ann", "bob", "cy"), (), (), 0, "ann:0 bob:0 cy:0"))
        self.same(house.counts(), (0, 0))
        for hand in house.hands():
            self.same((house.book(hand), house.waiting(hand), house.view(hand)), ((), (), ()))
        self.same(House(hands=("ann",)).hands(), ("ann",))
        self.same(House(("ann", "bob", "cy", "dan")).hands(), ("ann", "bob", "cy", "dan"))

    def test_make(self):
        self.told(OPEN, ("ann", 0))
        self.told(PUT, ("ann", 1))
        self.told(("make", "bob", ("open", "rows")), ("bob", 0))
        self.same(self.house.book("ann"), (("ann", 0, 0, (), ("open", "text")),
                                           ("ann", 1, 1, (("ann", 1),), PUT[2])))
        self.same(self.house.book("bob"), (("bob", 0, 0, (), ("open", "rows")),))
        self.same(self.house.book("cy"), ())
        self.same(self.house.steps(), (OPEN, PUT, ("make", "bob", ("open", "rows"))))
        self.assertEqual((len(self.house), str(self.house)), (3, "ann:2 bob:1 cy:0"))

    def test_make_each_what(self):
        for at, (what, _, _) in enumerate(WHATS):
            self.told(("make", "ann", what), ("ann", at))

    def test_send_come_again(self):
        self.do(OPEN, PUT)
        self.told(("send", "ann", "bob"), 2)
        letter = ("ann", (("ann", 2),), self.house.book("ann"))
        self.same(self.house.letters(), (("bob", letter),))
        self.told(("send", "bob", "cy"), 0)
        self.same(self.house.letters(), (("bob", letter), ("cy", ("bob", (), ()))))
        self.told(("come", 0), (("ann", 0), ("ann", 1)))
        self.same(self.house.letters(), (("cy", ("bob", (), ())),))
        self.same(self.house.book("bob"), self.house.book("ann"))
        self.told(("again", 0), ())
        self.told(("come", 0), ())
        self.told(("again", 1), ())
        self.same(self.house.letters(), ())
        self.assertEqual(str(self.house), "ann:2 bob:2 cy:0")

    def test_as_they_went_not_as_they_are_called(self):
        self.do(OPEN, ("send", "ann", "bob"), PUT, ("send", "ann", "cy"), GIVE, ("send", "ann", "bob"))
        self.assertEqual([(to, len(letter[2])) for to, letter in self.house.letters()],
                         [("bob", 1), ("cy", 2), ("bob", 3)])
        self.told(("come", 2), (("ann", 0), ("ann", 1), ("ann", 2)))
        self.told(("come", 1), (("ann", 0), ("ann", 1)))
        self.told(("come", 0), ())
        # Those that CAME stand as they came.
        self.told(("again", 1), ())
        self.refused(self.no_deed, ("again", 3), "letter")

    def test_lose(self):
        self.do(OPEN, ("send", "ann", "bob"), PUT, ("send", "ann", "bob"), ("send", "ann", "cy"))
        self.told(("lose", 0), 1)
        self.told(("lose", 1), 2)
        self.assertEqual([to for to, _ in self.house.letters()], ["bob"])
        self.refused(self.no_deed, ("lose", 1), "letter")
        self.refused(self.no_deed, ("again", 0), "letter")
        self.told(("come", 0), (("ann", 0), ("ann", 1)))

    def test_what_is_heard_is_not_sent_again(self):
        self.do(OPEN, ("send", "ann", "bob"), ("send", "ann", "bob"), ("come", 0))
        self.told(("send", "ann", "bob"), 1)
        self.told(("send", "bob", "ann"), 0)
        self.do(("lose", 2))
        self.do(("send", "bob", "ann"), ("come", 2))
        self.told(("send", "ann", "bob"), 0)

    def test_letters_of_twelve(self):
        self.do(OPEN, *[("make", "ann", ("mark", ("ann", 0), None)) for _ in range(15)])
        self.told(("send", "ann", "bob"), 12)
        self.told(("come", 0), tuple(("ann", n) for n in range(12)))
        self.do(("send", "bob", "ann"), ("come", 0))
        self.told(("send", "ann", "bob"), 4)
        self.told(("come", 0), tuple(("ann", n) for n in range(12, 16)))

    def test_all(self):
        self.told(("all", ()), ())
        self.told(("all", (OPEN,)), (("ann", 0),))
        steps = (PUT, ("send", "ann", "bob"), ("come", 0), ("again", 0), ("send", "bob", "cy"), ("lose", 0))
        self.told(("all", steps), (("ann", 1), 2, (("ann", 0), ("ann", 1)), (), 2, 2))
        self.assertEqual(len(self.house), 3)
        self.same(self.house.steps(), (("all", ()), ("all", (OPEN,)), ("all", steps)))

    def test_all_or_none(self):
        self.do(OPEN)
        for check, more, last in ((self.no_deed, ("letter",), ("come", 3)), (self.no_copy, ("dan",), ("send", "ann", "dan")),
                                  (self.no_deed, ("letter",), ("send", "bob", "bob"))):
            for steps in ((PUT, last), (last,), (PUT, ("send", "ann", "bob"), ("come", 0), last, GIVE)):
                self.refused(check, ("all", steps), *more)
        self.assertEqual(str(self.house), "ann:1 bob:0 cy:0")


class RefusedTest(HouseTest):
    def test_none_by_kind(self):
        self.do(OPEN)
        for thing in NO_STEPS:
            self.refused(self.no_deed, thing, "step")
            self.refused(self.no_deed, ("all", (PUT, thing)), "step")
        self.refused(self.no_deed, ("all", (PUT, ("all", ()))), "step")
        self.refused(self.no_deed, ("all", (("all", (PUT,)),)), "step")

    def test_no_copy(self):
        self.do(OPEN)
        for step, hand in ((("make", "dan", ("open", "text")), "dan"), (("send", "dan", "ann"), "dan"),
                           (("send", "ann", "dan"), "dan"), (("send", "dan", "eve"), "dan"),
                           (("send", "dan", "dan"), "dan")):
            self.refused(self.no_copy, step, hand)
            self.refused(self.no_copy, ("all", (PUT, step, ("come", 9))), hand)

    def test_no_letter(self):
        self.do(OPEN, ("send", "ann", "bob"))
        for step in (("come", 1), ("come", 10 ** 199), ("again", 0), ("again", 1), ("lose", 1), ("send", "ann", "ann")):
            self.refused(self.no_deed, step, "letter")
        self.do(("come", 0))
        for step in (("come", 0), ("lose", 0), ("again", 1)):
            self.refused(self.no_deed, step, "letter")

    def test_which_goes_first(self):
        bad = ("make", "ann", ("open", "x"))
        self.refused(self.no_deed, ("all", (("send", "dan", "ann"), ("come", 3), bad)), "step")
        self.refused(self.no_copy, ("all", (("send", "dan", "ann"), ("come", 3))), "dan")
        self.refused(self.no_deed, ("all", (("come", 3), ("send", "dan", "ann"))), "letter")
        self.refused(self.no_deed, ("make", "dan", ("open", "x")), "step")
        self.refused(self.no_deed, ("send", "ann", "Dan"), "step")

    def test_the_very_things(self):
        hand = "".join(["d", "an"])
        told = self.caught(NoCopy, HouseError, self.house.step, (("make", hand, ("open", "text")),), {})
        self.assertIs(told.hand, hand)

    def test_odd_things_as_hands(self):
        for thing in THINGS + [Odd(), ["ann"], ("ann", "bob"), "dan", self.house]:
            if thing not in ("ann", "bob", "cy"):
                for call, more in ((self.house.book, ()), (self.house.waiting, ()), (self.house.view, ()),
                                   (self.house.spots, ("so",))):
                    told = self.caught(NoCopy, HouseError, call, (thing,) + more, {})
                    self.assertIs(told.hand, thing)
                self.assertIs(self.house.has(thing), False)
        for hand in ("ann", "bob", "cy"):
            self.assertIs(self.house.has(hand), True)
            self.assertIs(self.house.has(thing=hand), True)


class RunTest(HouseTest):
    def test_limit(self):
        self.assertEqual(LIMIT, 200)

    def test_all_of_them(self):
        self.same(self.house.run((OPEN, PUT, ("send", "ann", "bob"), ("come", 0))), 4)
        self.assertEqual((len(self.house), str(self.house)), (4, "ann:2 bob:2 cy:0"))
        self.same(self.house.run(()), 0)
        self.same(self.house.run((), most=3), 0)

    def test_most(self):
        steps = (OPEN, PUT, GIVE)
        for most, due in ((0, 0), (1, 1), (2, 2), (3, 3), (4, 3), (10 ** 6, 3)):
            house = House(("ann", "bob"))
            self.same(house.run(steps, most=most), due)
            self.same(house.steps(), steps[:due])
            self.same(house.counts(), (1, 1))

    def test_more_than_the_limit(self):
        marks = (OPEN,) + (("send", "ann", "bob"),) * 249
        self.same(self.house.run(marks), 200)
        self.assertEqual(len(self.house), 200)
        house = House(("ann", "bob"))
        self.same(house.run(steps=marks, most=250), 250)
        self.assertEqual((len(house), len(house.letters())), (250, 249))
        with self.assertRaises(TypeError):
            house.run(marks, 3)

    def test_those_behind_most_are_not_looked_at(self):
        for odd in NO_STEPS + [("come", 3)]:
            house = House(("ann", "bob"))
            self.same(house.run((OPEN, odd), most=1), 1)
            self.same(house.run((odd,), most=0), 0)
            self.assertEqual(len(house), 1)

    def test_those_ahead_of_a_refused_one_stand(self):
        for odd, check, more in ((("come", 3), self.no_deed, ("letter",)), (None, self.no_deed, ("step",)),
                                 (("send", "ann", "dan"), self.no_copy, ("dan",)),
                                 (("all", (GIVE, ("lose", 1))), self.no_deed, ("letter",))):
            self.house = House(("ann", "bob"))
            check(*more, self.house.run, (OPEN, PUT, odd, GIVE))
            self.same(self.house.steps(), (OPEN, PUT))
            self.assertEqual(str(self.house), "ann:2 bob:0")
            self.same(self.house.counts(), (1, 1))


class BackTest(HouseTest):
    def setUp(self):
        HouseTest.setUp(self)
        self.states = [state(self.house)]
        self.all = (OPEN, PUT, ("send", "ann", "bob"), ("all", (GIVE, ("send", "ann", "cy"))), ("come", 0),
                    ("again", 0), ("lose", 0), ("make", "bob", ("mark", ("ann", 0), None)), ("send", "bob", "ann"))
        for step in self.all:
            self.house.step(step)
            self.states.append(state(self.house))

    def test_by_one(self):
        self.same(self.house.back(), (self.all[-1],))
        self.same(state(self.house), self.states[-2])
        self.same(self.house.back(times=1), (self.all[-2],))
        self.same(state(self.house), self.states[-3])

    def test_by_several(self):
        for many in range(1, len(self.all) + 1):
            house = House(("ann", "bob", "cy"))
            house.run(self.all)
            self.same(house.back(times=many), self.all[::-1][:many])
            self.same(state(house), self.states[len(self.all) - many])
            # It goes on as if these had never been.
            self.assertEqual(house.run(self.all[len(self.all) - many:]), many)
            self.same(state(house), self.states[-1])
            self.assertTrue(house == self.house)

    def test_what_was_heard_and_what_came_go_too(self):
        self.house.back(times=5)
        self.same(self.house.letters(), (("bob", ("ann", (("ann", 2),), self.house.book("ann")[:2])),
                                         ("cy", ("ann", (("ann", 3),), self.house.book("ann")))))
        self.refused(self.no_deed, ("again", 0), "letter")
        # bob heard nothing of ann yet, so all goes to her again.
        self.do(("make", "bob", ("open", "rows")))
        self.told(("send", "bob", "ann"), 1)

    def test_refused(self):
        many = len(self.all)
        for odd in [0, many + 1, 10 ** 199, -1, True, False, None, "1", (1,), [1], Odd(), 1 - 1] + THINGS:
            if not (isinstance(odd, int) and not isinstance(odd, bool) and 1 <= odd <= many):
                self.no_back(odd)
        self.house.back(times=many)
        self.same(state(self.house), self.states[0])
        for odd in (1, 0, 2):
            self.no_back(odd)

    def test_times_by_its_name_alone(self):
        with self.assertRaises(TypeError):
            self.house.back(1)


class TellingTest(HouseTest):
    def test_views_and_spots(self):
        self.do(OPEN, PUT, GIVE, ("send", "ann", "bob"), ("come", 0), ("make", "bob", ("mark", ("ann", 0), None)))
        for hand in self.house.hands():
            book = self.house.book(hand)
            self.same(self.house.view(hand), view(book, hand=hand))
            self.same(self.house.view(hand=hand, age=0), view(book, hand=hand, age=0))
            for text in ("so", "it", "s", "", " ", "so it", "\n"):
                self.same(self.house.spots(hand, text), spots_of(view(book, hand=hand), text))
                self.same(self.house.spots(word=text, hand=hand), spots_of(view(book, hand=hand), text))
        self.assertEqual(self.house.view("bob")[0][5], (("bob", None),))
        self.assertEqual(len(self.house.spots("bob", "it")), 1)
        self.same(self.house.spots("cy", "it"), ())
        with self.assertRaises(TypeError):
            self.house.view("ann", 3)

    def test_waiting(self):
        self.do(OPEN, PUT, ("send", "ann", "bob"), ("come", 0))
        for hand in self.house.hands():
            self.same(self.house.waiting(hand), ())
            self.same(self.house.waiting(hand=hand), ())
            self.same(self.house.book(hand=hand), self.house.book(hand))

    def test_counts(self):
        house = self.house
        house.step(OPEN)
        self.same(house.counts(), (1, 1))
        house.run((PUT, GIVE, ("send", "ann", "bob")))
        self.same(house.counts(), (2, 2))
        self.no_deed("letter", house.run, (("come", 0), ("come", 0)))
        self.same(house.counts(), (3, 3))
        house.step(("all", (("again", 0), ("again", 0))))
        self.same(house.counts(), (4, 4))
        house.back(times=3)
        self.same(house.counts(), (5, 5))
        self.no_back(0)
        self.same(house.counts(), (6, 6))
        house.view("ann"), house.steps(), len(house), str(house), house.has(0), house.hands(), house.letters()
        self.same(house.counts(), (6, 6))

    def test_len(self):
        self.do(OPEN, ("all", (PUT, GIVE)))
        self.assertEqual(len(self.house), 2)
        self.no_deed("step", self.house.step, None)
        self.assertEqual(len(self.house), 2)
        self.house.back()
        self.assertEqual(len(self.house), 1)


class EqualTest(HouseTest):
    def same_house(self, one, other):
        for left, right in ((one, other), (other, one)):
            self.assertIs(left == right, True)
            self.assertIs(left != right, False)

    def other_house(self, one, other):
        for left, right in ((one, other), (other, one)):
            self.assertIs(left == right, False)
            self.assertIs(left != right, True)

    def test_itself_and_things(self):
        self.same_house(self.house, self.house)
        for thing in THINGS + [Odd(), Copy("ann"), str(self.house)]:
            self.other_house(self.house, thing)

    def test_hands(self):
        self.same_house(House(("ann", "bob")), House(("ann", "bob")))
        self.other_house(House(("ann", "bob")), House(("ann", "cy")))
        self.other_house(House(("ann",)), House(("ann", "bob")))

    def test_copies(self):
        one, other = House(("ann", "bob")), House(("ann", "bob"))
        one.step(OPEN)
        self.other_house(one, other)
        other.step(OPEN)
        self.same_house(one, other)
        one.step(PUT)
        other.step(GIVE)
        self.other_house(one, other)
        other.back()
        other.step(PUT)
        self.same_house(one, other)

    def test_whose_copy_knows_what(self):
        one, other = House(("ann", "bob")), House(("ann", "bob"))
        one.step(("make", "ann", ("open", "text")))
        other.step(("make", "bob", ("open", "text")))
        self.other_house(one, other)

    def test_letters_on_the_way_and_those_that_came(self):
        one, other = House(("ann", "bob")), House(("ann", "bob"))
        one.step(("send", "ann", "bob"))
        self.other_house(one, other)
        other.step(("send", "bob", "ann"))
        self.other_house(one, other)
        other.run((("send", "ann", "bob"), ("lose", 0)))
        self.same_house(one, other)
        one.step(("come", 0))
        other.step(("lose", 0))
        # They know the same, and nothing is on the way, but one letter came.
        self.other_house(one, other)

    def test_steps_aside(self):
        one, other = House(("ann", "bob")), House(("ann", "bob"))
        one.run((OPEN, PUT, ("send", "ann", "bob"), ("come", 0)))
        other.step(("all", (OPEN, PUT, ("send", "ann", "bob"), ("come", 0), ("again", 0))))
        self.same_house(one, other)
        self.assertNotEqual(len(one), len(other))
        other.back()
        one.back(times=4)
        self.same_house(one, other)

    def test_two_houses_go_apart(self):
        hands = ["ann", "bob"]
        one, other = House(tuple(hands)), House(tuple(hands))
        one.step(OPEN)
        self.same(other.book("ann"), ())


class ChanceTest(Refusing):
    """Houses by chance: each STEP beside a second telling by COPIES alone."""

    def a_step(self, chance, house):
        word = chance.choice("make make make send send come come come again lose odd".split())
        hand, other = chance.choice(house.hands()), chance.choice(house.hands() + ("zed",))
        if word == "make":
            return ("make", hand, self.a_what(chance, house, hand))
        if word == "send":
            return ("send", hand, other)
        if word == "odd":
            return chance.choice(NO_STEPS)
        return (word, chance.randrange(max(1, len(house.letters()) + (chance.random() < 0.2))))

    def a_what(self, chance, house, hand):
        deeds = list(house.book(hand))
        docs = [deed[:2] for deed in deeds if deed[4][0] == "open"]
        if not docs or (chance.random() < 0.1 and len(docs) < 3):
            return ("open", chance.choice(sorted(WORDS)))
        of = chance.choice(docs)
        if chance.random() < 0.2:
            return ("give", of, chance.choice(house.hands()), chance.choice(["see", "change", "own"]))
        sort = [deed[4][1] for deed in deeds if deed[:2] == of][0]
        return Chance(chance, deeds, hand, of).what(sort)

    def second(self, table, way, came, step):
        """What a STEP does to COPIES by HANDS and to lists of letters, where it is not refused."""
        if step[0] == "make":
            return table[step[1]].make(step[2])[:2]
        if step[0] == "send":
            way.append((step[2], table[step[1]].write(to=step[2])))
            return len(way[-1][1][2])
        if step[0] == "lose":
            return len(way.pop(step[1])[1][2])
        if step[0] == "come":
            came.append(way.pop(step[1]))
        to, letter = came[-1] if step[0] == "come" else came[step[1]]
        return table[to].read(letter)

    def test_schedules(self):
        for seed in range(12):
            chance = random.Random(seed)
            house = House(("ann", "bob", "cy", "dan")[:2 + seed % 3])
            table = {hand: Copy(hand) for hand in house.hands()}
            way, came = [], []
            for _ in range(60):
                step = self.a_step(chance, house)
                was = len(house)
                try:
                    told = house.step(step)
                except ValueError:
                    self.assertEqual(len(house), was)
                else:
                    self.assertTrue(like(told, self.second(table, way, came, step)), step)
                self.agrees(house, table, way)
            self.ends(house)

    def agrees(self, house, table, way):
        self.same(house.letters(), tuple(way))
        self.assertEqual(str(house), " ".join(f"{hand}:{len(table[hand])}" for hand in sorted(table)))
        for hand, copy in table.items():
            self.same((house.book(hand), house.waiting(hand)), (copy.book(), copy.waiting()))
            self.assertTrue(is_book(copy.book()))

    def ends(self, house):
        """All write one another till nothing is lacking: then all COPIES tell the same of what is seen."""
        while len({house.book(hand) for hand in house.hands()}) > 1:
            for hand in house.hands():
                for other in house.hands():
                    if other != hand:
                        house.step(("send", hand, other))
                        house.step(("come", len(house.letters()) - 1))
        book = house.book("ann")
        keys = [deed[:2] for deed in book]
        self.assertEqual(len(keys), len(set(keys)))
        for hand in house.hands():
            self.same(house.view(hand), view(book, hand=hand))
            self.assertEqual(len(house.view(hand)), len(seen_by(book, hand=hand)))
        whole = House(house.hands())
        whole.run(house.steps(), most=len(house))
        self.assertTrue(whole == house)

    def test_back_and_forth(self):
        for seed in range(6):
            chance = random.Random(100 + seed)
            house = House(("ann", "bob", "cy"))
            states = [state(house)]
            for _ in range(50):
                if chance.random() < 0.2 and len(house):
                    times = chance.randrange(1, len(house) + 1) if chance.random() < 0.3 else 1
                    due = house.steps()[::-1][:times]
                    self.same(house.back(times=times), due)
                    states = states[:len(states) - times]
                else:
                    try:
                        house.step(self.a_step(chance, house))
                    except ValueError:
                        pass
                    else:
                        states.append(state(house))
                self.same(state(house), states[-1])


if __name__ == "__main__":
    unittest.main()
