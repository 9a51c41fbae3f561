import itertools
import random
import unittest

from coeditry.books import is_book
from coeditry.copies import Copy
from coeditry.errors import CoeditError, HouseError, NoDeed, NoKey, PaperError, TextError
from coeditry.letters import lacking
from coeditry.versions import version_of
from tests.naive import BOOKS, a_book, a_what, due, fault, key, knew, make
from tests.samples import ANN0, BOOK, THINGS, WHATS, Odd

OPEN = ("open", "text")
ROW = ("row", ANN0)
HUGE = 10 ** 199


def told_by(copy):
    """All that a COPY tells."""
    heard = tuple(copy.heard(of=hand) for hand in ("ann", "bob", "cy", "dora", "zz"))
    return (copy.whose(), copy.book(), copy.all_keys(), copy.version(), copy.waiting(), len(copy), heard)


def copy_of(hand, deeds=()):
    copy = Copy(hand)
    copy.take_all(deeds)
    return copy


class CopiesTest(unittest.TestCase):
    def refused(self, word, method, *handed, **named):
        with self.assertRaises(NoDeed) as caught:
            method(*handed, **named)
        error = caught.exception
        self.assertEqual(error.word, word)
        self.assertIs(type(error), NoDeed)
        self.assertIsInstance(error, PaperError)
        self.assertIsInstance(error, CoeditError)
        self.assertNotIsInstance(error, (HouseError, TextError))

    def unturned(self, word, copy, method, *handed):
        ahead = told_by(copy)
        self.refused(word, method, *handed)
        self.assertEqual(told_by(copy), ahead)


class TakingTest(CopiesTest):
    def test_a_new_one(self):
        copy = Copy("ann")
        self.assertEqual(told_by(copy), ("ann", (), (), (), (), 0, ((),) * 5))
        self.assertEqual(Copy(hand="bob").whose(), "bob")

    def test_in_turn(self):
        copy = Copy("cy")
        self.assertEqual(copy.take(BOOK[0]), (ANN0,))
        self.assertEqual(copy.take(deed=BOOK[1]), (("ann", 1),))
        self.assertEqual(copy.take_all(BOOK[2:]), (("ann", 2), ("bob", 0), ("ann", 3), ("bob", 1)))
        self.assertEqual(copy.book(), BOOK)
        self.assertEqual(copy.waiting(), ())
        self.assertEqual(copy.version(), (("ann", 4), ("bob", 2)))
        self.assertEqual(copy.all_keys(), tuple(key(deed) for deed in BOOK))
        self.assertEqual(len(copy), 6)

    def test_those_that_wait(self):
        copy = Copy("cy")
        for deed in (BOOK[5], BOOK[4], BOOK[2], BOOK[1]):
            self.assertEqual(copy.take(deed), ())
        self.assertEqual(copy.waiting(), (BOOK[1], BOOK[2], BOOK[4], BOOK[5]))
        self.assertEqual((copy.book(), copy.all_keys(), len(copy)), ((), (), 0))
        self.assertEqual(copy.take(BOOK[0]), (ANN0, ("ann", 1), ("ann", 2), ("bob", 0), ("bob", 1)))
        self.assertEqual(copy.waiting(), ())
        self.assertEqual(copy.book(), BOOK[:3] + BOOK[4:])

    def test_the_least_key_comes_first(self):
        cy = ("cy", 0, 0, (), OPEN)
        deeds = (("dora", 0, 1, (("cy", 1),), ("row", ("cy", 0))), ("bob", 0, 1, (("cy", 1),), ("row", ("cy", 0))),
                 ("ann", 0, 2, (("bob", 1), ("cy", 1)), ("row", ("cy", 0))))
        copy = copy_of("ann", deeds)
        self.assertEqual(copy.take(cy), (("cy", 0), ("bob", 0), ("ann", 0), ("dora", 0)))

    def test_in_any_order(self):
        due_copy = copy_of("cy", BOOK)
        for deeds in itertools.permutations(BOOK):
            copy = Copy("ann")
            told = []
            for deed in deeds:
                told += copy.take(deed)
            self.assertEqual(sorted(told), [key(deed) for deed in BOOK])
            self.assertEqual(told_by(copy)[1:], told_by(due_copy)[1:])
            self.assertTrue(copy == due_copy)

    def test_twice(self):
        copy = Copy("ann")
        for deed in BOOK[1:] + BOOK[1:]:
            copy.take(deed)
        self.assertEqual(copy.waiting(), BOOK[1:])
        copy.take(BOOK[0])
        for deed in BOOK:
            ahead = told_by(copy)
            self.assertEqual(copy.take(deed), ())
            self.assertEqual(told_by(copy), ahead)
        self.assertEqual(copy.take_all(BOOK), ())

    def test_shape(self):
        copy = copy_of("ann", BOOK[:2] + BOOK[5:])
        for thing in THINGS + [Odd(), list(BOOK[2]), BOOK, Copy("ann"), BOOK[2][:4], BOOK[2] + (0,)]:
            self.unturned("shape", copy, copy.take, thing)
        thing = list(BOOK[2])
        self.unturned("shape", copy, copy.take, thing)
        self.assertEqual(thing, list(BOOK[2]))

    def test_own(self):
        copy = copy_of("ann", BOOK[:2])
        for deed in (("bob", 0, 0, (("bob", 1),), ROW), ("bob", 1, 0, (), ROW), ("bob", 2, 0, (("bob", 1),), ROW),
                     ("bob", 2, 0, (("ann", 2), ("bob", 3)), ROW), ("ann", 1, 1, (), ROW), ("bob", HUGE, 0, (), ROW)):
            self.unturned("own", copy, copy.take, deed)

    def test_other(self):
        copy = copy_of("ann", BOOK[:2] + BOOK[5:])
        self.unturned("other", copy, copy.take, ("ann", 0, 0, (), ("open", "rows")))
        self.unturned("other", copy, copy.take, ("ann", 0, 1, (), OPEN))
        self.unturned("other", copy, copy.take, ("ann", 1, 1, (("ann", 1),), ("row", ANN0)))
        self.unturned("other", copy, copy.take, BOOK[5][:2] + (9,) + BOOK[5][3:])
        self.unturned("own", copy, copy.take, ("ann", 1, 1, (), ROW))

    def test_a_truth_is_no_number(self):
        look = ("ann", 1, 1, (("ann", 1),), ("look", ANN0, ((ANN0, 0),), "bold", True))
        copy = copy_of("ann", (BOOK[0], look))
        self.unturned("shape", copy, copy.take, look[:4] + (("look", ANN0, ((ANN0, 0),), "bold", 1),))
        self.unturned("shape", copy, copy.take, ("ann", True) + look[2:])
        self.unturned("other", copy, copy.take, look[:4] + (("look", ANN0, ((ANN0, 0),), "bold", False),))

    def test_one_that_goes(self):
        for wrong in (("bob", 0, 0, (("ann", 1),), ROW), ("bob", 0, 2, (("ann", 1),), ROW)):
            copy = copy_of("ann", BOOK[:1])
            self.assertEqual(copy.take(wrong), ())
            self.assertEqual((copy.book(), copy.waiting(), len(copy)), (BOOK[:1], (), 1))
            self.assertEqual(copy.take(wrong), ())
            right = ("bob", 0, 1, (("ann", 1),), ROW)
            self.assertEqual(copy.take(right), (("bob", 0),))

    def test_one_that_goes_by_closed(self):
        ann, bob = ("ann", 0, 0, (), OPEN), ("bob", 0, 1, (("ann", 1),), ROW)
        cy = ("cy", 0, 0, (("bob", 1),), OPEN)
        dora = ("dora", 0, 0, (("cy", 1),), OPEN)
        copy = copy_of("ann", (dora, cy))
        self.assertEqual(copy.waiting(), (cy, dora))
        self.assertEqual(copy.take(bob), ())
        self.assertEqual(copy.take(ann), (("ann", 0), ("bob", 0)))
        self.assertEqual(copy.waiting(), (dora,))
        right = ("cy", 0, 0, (("ann", 1), ("bob", 1)), OPEN)
        # dora's knew tells of cy's alone: now it is due, and goes, too.
        self.assertEqual(copy.take(right), (("cy", 0),))
        self.assertEqual(copy.waiting(), ())
        self.assertFalse(copy.has(("dora", 0)))

    def test_who_knew_one_that_goes_waits_on(self):
        ann = ("ann", 0, 0, (), OPEN)
        wrong = ("ann", 1, 7, (("ann", 1),), ROW)
        behind = ("ann", 2, 2, (("ann", 2),), ROW)
        copy = copy_of("bob", (behind, wrong))
        self.assertEqual(copy.waiting(), (wrong, behind))
        self.assertEqual(copy.take(ann), (("ann", 0),))
        self.assertEqual(copy.waiting(), (behind,))
        self.assertEqual(copy.take(wrong), ())
        self.assertEqual(copy.waiting(), (behind,))
        right = ("ann", 1, 1, (("ann", 1),), ROW)
        self.assertEqual(copy.take(right), (("ann", 1), ("ann", 2)))
        self.assertEqual(copy.waiting(), ())

    def test_a_knew_of_more_than_can_be_gone_through(self):
        copy = copy_of("ann", BOOK[:1])
        huge = (("bob", 0, 0, (("ann", HUGE),), ROW), ("bob", HUGE, 0, (("bob", HUGE),), ROW))
        self.assertEqual(copy.take_all(huge), ())
        self.assertEqual(copy.waiting(), huge)
        self.assertEqual(len(copy), 1)

    def test_several_where_one_is_refused(self):
        copy = Copy("ann")
        self.refused("shape", copy.take_all, [BOOK[0], BOOK[2], 7, BOOK[1]])
        self.assertEqual((copy.book(), copy.waiting()), (BOOK[:1], BOOK[2:3]))
        self.refused("own", copy.take_all, deeds=(BOOK[1], ("cy", 1, 0, (), ROW)))
        self.assertEqual((copy.book(), copy.waiting()), (BOOK[:3], ()))
        self.assertEqual(copy.take_all(()), ())
        self.assertEqual(copy.take_all([]), ())
        self.assertEqual(copy.take_all(deeds=[BOOK[0], BOOK[4]]), (("bob", 0),))

    def test_lists_are_not_changed(self):
        deeds = list(BOOK)
        copy_of("ann", deeds)
        self.assertEqual(deeds, list(BOOK))

    def test_by_chance(self):
        """Against the model: WAITING ones, again and again the least that is DUE, which comes or goes."""
        for seed in range(60):
            chance = random.Random(seed)
            deeds = list(chance.choice(BOOKS[:40]))
            for _ in range(4):
                hand, n, count, known, what = chance.choice(deeds)
                pairs = dict(known)
                pairs[chance.choice(["ann", "bob", "cy"])] = chance.randrange(1, 5)
                deeds.append(chance.choice([(hand, n, count + 1, known, what), (hand, n, count, known, ("row", ANN0)),
                                            (hand, n, count, tuple(sorted(pairs.items())), what)]))
            chance.shuffle(deeds)
            self.against_the_model(deeds * 2)

    def against_the_model(self, deeds):
        copy, known, waits = Copy("ann"), {}, {}
        for deed in deeds:
            ahead = told_by(copy)
            held = known.get(key(deed)) or waits.get(key(deed)) or deed
            if dict(deed[3]).get(deed[0], 0) != deed[1]:
                self.unturned("own", copy, copy.take, deed)
            elif held != deed:
                self.unturned("other", copy, copy.take, deed)
            elif key(deed) in known or key(deed) in waits:
                self.assertEqual(copy.take(deed), ())
                self.assertEqual(told_by(copy), ahead)
            else:
                waits[key(deed)] = deed
                told = self.model_settles(known, waits)
                self.assertEqual(copy.take(deed), tuple(told))
            self.assertEqual(copy.book(), tuple(known[one] for one in sorted(known)))
            self.assertEqual(copy.waiting(), tuple(waits[one] for one in sorted(waits)))
            self.assertIs(is_book(copy.book()), True)

    def model_settles(self, known, waits):
        told = []
        while True:
            ready = due(set(known), list(waits.values()))[:1]
            if not ready:
                return told
            deed = ready[0]
            del waits[key(deed)]
            if fault(tuple(known.values()) + (deed,), deed) is None:
                known[key(deed)] = deed
                told.append(key(deed))


class MakingTest(CopiesTest):
    def test_each_what(self):
        copy = copy_of("bob", BOOK)
        for what, _, _ in WHATS:
            wanted = make(copy.book(), "bob", what)
            self.assertEqual(copy.make(what), wanted)
            self.assertTrue(copy.has(key(wanted)))
        self.assertEqual(len(copy), len(BOOK) + len(WHATS))
        self.assertIs(is_book(copy.book()), True)
        self.assertEqual(Copy("ann").make(what=OPEN), ("ann", 0, 0, (), OPEN))

    def test_shape(self):
        copy = copy_of("bob", BOOK[:2] + BOOK[5:])
        for thing in THINGS + [Odd(), list(ROW), BOOK[0], ("row",), ("row", ["ann", 0]), Copy("ann")]:
            self.unturned("shape", copy, copy.make, thing)

    def test_waits(self):
        copy = copy_of("bob", BOOK[5:])
        self.assertEqual(copy.waiting(), BOOK[5:])
        self.unturned("waits", copy, copy.make, ROW)
        self.unturned("shape", copy, copy.make, ("row",))
        copy.take_all(BOOK[:3])
        self.unturned("waits", copy, copy.make, ROW)
        copy.take(BOOK[4])
        self.assertEqual(key(copy.make(ROW)), ("bob", 2))

    def test_others_that_wait_bar_nothing(self):
        copy = copy_of("ann", BOOK[5:])
        self.assertEqual(copy.make(OPEN), ("ann", 0, 0, (), OPEN))
        self.assertEqual(copy.waiting(), BOOK[5:])

    def test_what_is_due_then_comes(self):
        copy = copy_of("ann", (("bob", 0, 1, (("ann", 1),), ROW), ("cy", 0, 5, (("ann", 1),), ROW)))
        self.assertEqual(copy.make(OPEN), ("ann", 0, 0, (), OPEN))
        self.assertEqual(copy.all_keys(), (("ann", 0), ("bob", 0)))
        self.assertEqual(copy.waiting(), ())

    def test_one_that_went_bars_nothing(self):
        copy = copy_of("bob", (BOOK[0], ("bob", 0, 9, (("ann", 1),), ROW)))
        self.assertEqual(copy.make(ROW), ("bob", 0, 1, (("ann", 1),), ROW))


class TellingTest(CopiesTest):
    def test_has(self):
        copy = copy_of("cy", BOOK[:2] + BOOK[4:])
        for thing in THINGS + [Odd(), ["ann", 0], BOOK[0], ("ann", 2), ("bob", 1), copy]:
            wanted = repr(thing) in ("('ann', 0)", "('ann', 1)")
            self.assertIs(copy.has(thing), wanted, thing)
            self.assertIs(copy.has(key=thing), wanted)

    def test_deed(self):
        copy = copy_of("cy", BOOK[:2] + BOOK[4:])
        self.assertEqual(copy.deed(ANN0), BOOK[0])
        self.assertEqual(copy.deed(key=("ann", 1)), BOOK[1])
        for thing in THINGS + [Odd(), ("bob", 1), ("ann", 2), copy]:
            if repr(thing) not in ("('ann', 0)", "('ann', 1)"):
                with self.assertRaises(NoKey) as caught:
                    copy.deed(thing)
                self.assertIs(caught.exception.key, thing)
                self.assertIsInstance(caught.exception, HouseError)
                self.assertNotIsInstance(caught.exception, PaperError)

    def same(self, one, other, wanted):
        self.assertIs(one == other, wanted)
        self.assertIs(other == one, wanted)
        self.assertIs(one != other, not wanted)
        self.assertIs(other != one, not wanted)

    def test_equal(self):
        one, other = Copy("ann"), Copy("bob")
        self.same(one, other, True)
        self.same(one, one, True)
        one.take(BOOK[0])
        self.same(one, other, False)
        other.take(BOOK[0])
        self.same(one, other, True)
        one.take(BOOK[5])
        self.same(one, other, False)
        other.take(BOOK[5])
        self.same(one, other, True)
        one.take_all(BOOK[1:])
        other.take_all(tuple(reversed(BOOK)))
        self.same(one, other, True)

    def test_the_same_known_and_unlike_waiting(self):
        self.same(copy_of("ann", BOOK[4:5]), copy_of("ann", BOOK[5:]), False)
        self.same(copy_of("ann", BOOK[:1]), copy_of("ann", (("ann", 0, 0, (), ("open", "rows")),)), False)

    def test_what_is_heard_is_aside(self):
        one = Copy("ann")
        one.read(("bob", (("bob", 3),), ()))
        self.same(one, Copy("ann"), True)

    def test_unlike_other_things(self):
        for copy in (Copy("ann"), copy_of("ann", BOOK)):
            for thing in THINGS + [Odd(), BOOK, copy.book(), copy.waiting(), len(copy)]:
                self.same(copy, thing, False)

    def test_what_is_told_is_of_just_that_kind(self):
        copy = copy_of("cy", BOOK[1:])
        copy.take(BOOK[0])
        for told in (copy.book(), copy.all_keys(), copy.version(), copy.waiting(), copy.heard(of="ann"),
                     copy.take(BOOK[0]), copy.take_all([]), copy.write(to="ann"), copy.read(("bob", (), ()))):
            self.assertIs(type(told), tuple)


class LettersTest(CopiesTest):
    def test_write(self):
        copy = copy_of("bob", BOOK)
        turn = lacking(BOOK, ())
        self.assertEqual(copy.write(to="zz"), ("bob", (("ann", 4), ("bob", 2)), turn))
        self.assertEqual(copy.write(to="zz", most=0), ("bob", (("ann", 4), ("bob", 2)), ()))
        for most in (1, 3, 6, 100, HUGE):
            self.assertEqual(copy.write(most=most, to="bob")[2], turn[:most])
        self.assertEqual(Copy("ann").write(to="bob"), ("ann", (), ()))
        with self.assertRaises(TypeError):
            copy.write("zz")

    def test_write_the_first_twelve(self):
        copy = Copy("ann")
        for _ in range(20):
            copy.make(OPEN)
        self.assertEqual([deed[1] for deed in copy.write(to="bob")[2]], list(range(12)))
        copy.read(("bob", (("ann", 5),), ()))
        self.assertEqual([deed[1] for deed in copy.write(to="bob")[2]], list(range(5, 17)))
        self.assertEqual([deed[1] for deed in copy.write(to="cy")[2]], list(range(12)))

    def test_writing_turns_nothing(self):
        copy = copy_of("ann", BOOK)
        ahead = told_by(copy)
        self.assertEqual(copy.write(to="bob"), copy.write(to="bob"))
        self.assertEqual(told_by(copy), ahead)

    def test_waiting_ones_are_not_written(self):
        copy = copy_of("ann", BOOK[:1] + BOOK[5:])
        self.assertEqual(copy.write(to="bob"), ("ann", (("ann", 1),), BOOK[:1]))

    def test_read(self):
        copy = Copy("cy")
        letter = copy_of("bob", BOOK).write(to="cy")
        self.assertEqual(copy.read(letter=letter), tuple(key(deed) for deed in letter[2]))
        self.assertEqual(copy.heard(of="bob"), (("ann", 4), ("bob", 2)))
        self.assertEqual(copy.heard(of="ann"), ())
        self.assertEqual(copy.book(), BOOK)
        ahead = told_by(copy)
        self.assertEqual(copy.read(letter), ())
        self.assertEqual(told_by(copy), ahead)
        self.assertEqual(copy.write(to="bob")[2], ())

    def test_what_is_heard_is_joined(self):
        copy = Copy("cy")
        for version, wanted in (((("ann", 3),), (("ann", 3),)), ((("ann", 1), ("bob", 2)), (("ann", 3), ("bob", 2))),
                                ((), (("ann", 3), ("bob", 2))), ((("zz", HUGE),), (("ann", 3), ("bob", 2), ("zz", HUGE)))):
            copy.read(("bob", version, ()))
            self.assertEqual(copy.heard(of="bob"), wanted)
        self.assertEqual(copy.heard(of="ann"), ())
        with self.assertRaises(TypeError):
            copy.heard("bob")

    def test_shape(self):
        copy = copy_of("cy", BOOK[:2] + BOOK[5:])
        copy.read(("bob", (("bob", 1),), ()))
        letter = ("bob", (("ann", 9),), BOOK)
        for thing in THINGS + [Odd(), list(letter), letter[:2], letter + (0,), letter[:2] + (list(BOOK),),
                               letter[:2] + (BOOK + (7,),), ("Bob",) + letter[1:], copy]:
            self.unturned("shape", copy, copy.read, thing)

    def test_a_refused_deed_within(self):
        copy = Copy("cy")
        wrong = ("bob", 1, 0, (), ROW)
        self.refused("own", copy.read, ("bob", (("ann", 3),), (BOOK[0], BOOK[2], wrong, BOOK[1])))
        self.assertEqual(copy.heard(of="bob"), (("ann", 3),))
        self.assertEqual((copy.book(), copy.waiting()), (BOOK[:1], BOOK[2:3]))
        self.refused("other", copy.read, ("bob", (("bob", 2),), (BOOK[1], ("ann", 0, 0, (), ("open", "tree")))))
        self.assertEqual(copy.heard(of="bob"), (("ann", 3), ("bob", 2)))
        self.assertEqual((copy.book(), copy.waiting()), (BOOK[:3], ()))

    def test_a_deed_that_goes_within(self):
        copy = Copy("cy")
        self.assertEqual(copy.read(("bob", (), (BOOK[0], ("bob", 0, 9, (), ROW), BOOK[1]))), (ANN0, ("ann", 1)))

    def test_one_of_its_own_hand(self):
        copy = Copy("ann")
        self.assertEqual(copy.read(("ann", (("ann", 4),), BOOK[:1])), (ANN0,))
        self.assertEqual(copy.heard(of="ann"), (("ann", 4),))


class MeetingTest(CopiesTest):
    def test_the_same_deeds_make_the_same_copies(self):
        for seed, book in enumerate(BOOKS):
            chance = random.Random(seed)
            copies = []
            for hand in ("ann", "bob", "zz"):
                deeds = list(book) * chance.choice([1, 2])
                chance.shuffle(deeds)
                copies.append(Copy(hand))
                for deed in deeds:
                    copies[-1].take(deed)
                    self.assertIs(is_book(copies[-1].book()), True)
                self.assertEqual(copies[-1].waiting(), ())
                self.assertEqual(copies[-1].book(), book)
            self.assertTrue(copies[0] == copies[1] == copies[2])

    def test_two_that_write_to_and_fro(self):
        for seed, book in enumerate(BOOKS[:40]):
            for most in (1, 2, 12):
                deed = random.Random(seed).choice(book)
                had = knew(deed) | {key(deed)}
                one = copy_of("ann", [deed for deed in book if key(deed) in had])
                other = copy_of("bob", [deed for deed in book if deed[0] == "bob"] + [book[0]])
                self.to_and_fro(one, other, most)

    def to_and_fro(self, one, other, most):
        turns = 0
        while lacking(one.book(), one.heard(of=other.whose())) or lacking(other.book(), other.heard(of=one.whose())):
            other.read(one.write(to=other.whose(), most=most))
            one.read(other.write(to=one.whose(), most=most))
            turns += 1
            self.assertLess(turns, 60)
        self.assertEqual(one.book(), other.book())

    def test_nobody_need_tell_what_the_other_one_told(self):
        ann, bob = copy_of("ann", BOOK[:3]), Copy("bob")
        bob.read(ann.write(to="bob"))
        self.assertEqual(bob.write(to="ann"), ("bob", (("ann", 3),), ()))
        ann.read(bob.write(to="ann"))
        self.assertEqual(ann.write(to="bob")[2], ())

    def test_letters_lost_late_and_twice(self):
        for seed in range(25):
            chance = random.Random(seed)
            copies = {hand: Copy(hand) for hand in ("ann", "bob", "cy")}
            way = []
            for _ in range(120):
                self.one_step(chance, copies, way)
            for _ in range(40):
                for one, other in itertools.permutations(copies.values(), 2):
                    other.read(one.write(to=other.whose()))
            books = {copy.book() for copy in copies.values()}
            self.assertEqual(len(books), 1)
            self.assertTrue(copies["ann"] == copies["bob"] == copies["cy"])

    def one_step(self, chance, copies, way):
        hand, to = chance.sample(sorted(copies), 2)
        copy = copies[hand]
        turn = chance.random()
        if turn < 0.25:
            copy.make(a_what(chance, copy.book()))
        elif turn < 0.6:
            way.append((to, copy.write(to=to, most=chance.choice([0, 1, 3, 12]))))
        elif way:
            to, letter = chance.choice(way)
            copies[to].read(letter)
            if chance.random() < 0.5:
                way.remove((to, letter))
        self.assertIs(is_book(copy.book()), True)

    def test_a_letter_to_a_hand_without_a_copy(self):
        copy = copy_of("ann", BOOK)
        self.assertEqual(len(copy.write(to="nobody")[2]), 6)
        self.assertEqual(copy.heard(of="nobody"), ())

    def test_versions_are_those_of_books(self):
        for seed in range(10):
            copy = copy_of("ann", a_book(seed)[2:])
            self.assertEqual(copy.version(), version_of(copy.book()))


if __name__ == "__main__":
    unittest.main()
