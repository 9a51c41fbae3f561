import random
import unittest

from coeditry.errors import NoPaper
from coeditry.standchecker import lets_stand
from coeditry.standing import reason_of
from coeditry.standpapers import stand_paper
from tests.chance import ALL
from tests.naive import BOOKS, doc, key
from tests.plain import LEVELS, Plain, word
from tests.rowing import looked_at
from tests.samples import THINGS, Odd
from tests.story import Refusing, Story, odd_keys, opened


def told_by(book, asked, paper):
    """What the checker says: ("let", REASON), or (word, at)."""
    try:
        return ("let", lets_stand(book, asked, paper))
    except NoPaper as refused:
        return (refused.word, refused.at)


def fewest(book, asked, paper):
    """A paper of which no row can be left out."""
    for row in reversed(paper[:-1]):
        less = tuple(one for one in paper if one != row)
        if told_by(book, asked, less)[0] == "let":
            paper = less
    return paper


class ManyTest(Refusing):
    def test_the_told_paper_is_let_by(self):
        for plain in ALL + [Plain(book) for book in BOOKS]:
            for deed in plain.book[::2]:
                paper = stand_paper(plain.book, key(deed))
                self.assertIs(type(paper), tuple)
                self.same(stand_paper(key=key(deed), book=plain.book), paper)
                self.same(lets_stand(plain.book, key(deed), paper), plain.reason(key(deed)))
                self.same(lets_stand(thing=paper, key=key(deed), book=plain.book), plain.reason(key(deed)))
                self.assertEqual(paper[-1][0], key(deed))

    def test_papers_of_fewer_rows(self):
        less = 0
        for plain in ALL[::4]:
            for deed in plain.book[::3]:
                paper = stand_paper(plain.book, key(deed))
                short = fewest(plain.book, key(deed), paper)
                self.same(lets_stand(plain.book, key(deed), short), plain.reason(key(deed)))
                self.same(looked_at(plain.book, key(deed), short), ("let", plain.reason(key(deed))))
                less += len(short) < len(paper)
        self.assertGreater(less, 50)

    def test_whatever_paper_is_let_by_it_is_so(self):
        # Papers with rows left out, turned, mixed up: let by and refused as the document has it, and never wrongly.
        chance = random.Random(1)
        seen = {}
        for plain in ALL:
            for deed in plain.book[::3]:
                for _ in range(4):
                    paper = self.spoilt(chance, plain, stand_paper(plain.book, key(deed)))
                    told = told_by(plain.book, key(deed), paper)
                    self.same(told, looked_at(plain.book, key(deed), paper), plain.book, paper)
                    if told[0] == "let":
                        for row in paper:
                            self.same(row[1], plain.reason(row[0]))
                    seen[told[0]] = seen.get(told[0], 0) + 1
        self.assertEqual(set(seen), {"let", "row", "by", "reason", "last"})
        for word_of, many in seen.items():
            self.assertGreater(many, 30, word_of)

    def spoilt(self, chance, plain, paper):
        rows = list(paper)
        keys = [key(deed) for deed in plain.book]
        turned = chance.random()
        if turned < 0.7:
            rows = [row for row in rows[:-1] if chance.random() < chance.choice([0.5, 0.8, 0.95])] + rows[-1:]
        if turned > 0.4:
            at = chance.randrange(len(rows))
            one, reason, by = rows[at]
            reasons = [None, ("doc",), ("key",), ("level", chance.choice(LEVELS)), ("there", chance.randrange(2))]
            rows[at] = chance.choice([
                (chance.choice(keys), reason, by), (one, chance.choice(reasons), by), (one, reason, None),
                (one, reason, chance.choice(keys)), (one, reason, doc(plain.table[one])),
                (one, chance.choice(reasons), None), (one, chance.choice(reasons), chance.choice(keys)),
            ])
        if turned > 0.95:
            chance.shuffle(rows)
        if 0.85 < turned < 0.9 and len(rows) > 1:
            rows = rows[:-1]
        return tuple(rows)


class CheckerTest(Refusing):
    def let(self, story, paper):
        asked = paper[-1][0]
        self.same(lets_stand(story.book(), asked, paper), paper[-1][1])
        self.same(looked_at(story.book(), asked, paper), ("let", paper[-1][1]))
        self.same(reason_of(story.book(), asked), paper[-1][1])

    def refused(self, story, paper, word_of, at, asked=None):
        asked = asked or paper[-1][0]
        self.no_paper(word_of, at, lets_stand, story.book(), asked, paper)
        self.same(looked_at(story.book(), asked, paper), (word_of, at))


class ShapeTest(CheckerTest):
    def setUp(self):
        self.story, self.of = opened("rows", bob="change")
        self.row = self.story.make("bob", ("row", self.of))
        self.paper = stand_paper(self.story.book(), self.row)

    def shape(self, thing, at):
        self.no_paper("shape", at, lets_stand, self.story.book(), self.row, thing)

    def test_no_tuple_of_one_thing_or_more(self):
        for thing in [(), [], None, 0, True, "ann", list(self.paper), Odd(), Story()]:
            self.shape(thing, -1)

    def test_no_row(self):
        for thing in THINGS + [Odd(), list(self.paper[0]), self.paper[0][:2], self.paper[0] + (None,), self.paper]:
            self.shape((thing,), 0)
            self.shape(self.paper[:1] + (thing,) + self.paper[1:], 1)
            self.shape(self.paper + (thing, thing), 3)

    def test_a_row_of_other_things(self):
        for thing in odd_keys():
            if not (isinstance(thing, tuple) and len(thing) == 2 and type(thing[1]) is int and thing[1] >= 0):
                self.shape((self.paper[0], (thing, None, None)), 1)
                if thing is not None:
                    self.shape((self.paper[0], (self.row, None, thing)), 1)
        for thing in THINGS + [Odd(), ("doc",) * 2, ["doc"], ("doc", 0), "doc", ("key", "key"), ("level",), ("there",),
                               ("level", "high"), ("level", ["own"]), ("level", None), ("there", True), ("there", -1),
                               ("there", "0"), ("there", None), ("there", 0, 0), ["there", 0], ("lacks", 0), False,
                               ("level", 0), ("there", "own"), ("none",), ("Doc",), (("doc",),), ("level", "own", 0)]:
            if thing is not None:
                self.shape((self.paper[0], (self.row, thing, None)), 1)

    def test_reasons_by_kind(self):
        for reason in [("doc",), ("key",), ("there", 0), ("there", 10 ** 199)] + [("level", one) for one in LEVELS]:
            told = told_by(self.story.book(), self.row, self.paper[:2] + ((self.row, reason, None),))
            self.assertIn(told, [("by", 2), ("reason", 2)])

    def test_shape_goes_ahead_of_all_rows_the_first_one_first(self):
        wrong = (("zz", 0), None, None)
        self.shape((wrong, 0, 1), 1)
        self.shape((wrong, wrong, (self.row, True, None)), 2)

    def test_no_key_goes_ahead_of_all(self):
        for thing in odd_keys():
            for paper in (self.paper, (), None, (0,)):
                self.no_key(thing, lets_stand, self.story.book(), thing, paper)
            self.no_key(thing, stand_paper, self.story.book(), thing)
            self.no_key(thing, stand_paper, (), thing)
            self.no_key(thing, lets_stand, thing=(), book=self.story.book(), key=thing)


class RowTest(CheckerTest):
    def setUp(self):
        self.story, self.of = opened("rows", bob="change")
        self.give = ("ann", 1)
        self.row = self.story.make("bob", ("row", self.of))
        self.other = self.story.make("bob", ("open", "rows"))
        self.apart = self.story.make("bob", ("row", self.other))
        self.paper = ((self.give, None, self.of), (self.row, None, self.give))

    def test_fewer_rows(self):
        self.let(self.story, self.paper)
        self.let(self.story, ((self.of, None, None),) + self.paper)
        self.let(self.story, self.paper[:1])
        self.let(self.story, ((self.of, None, None),))

    def test_row(self):
        for one in (("zz", 0), ("bob", 10 ** 199), self.other, self.apart):
            self.refused(self.story, ((one, None, None),) + self.paper, "row", 0)
            self.refused(self.story, self.paper + ((one, ("doc",), one),), "row", 2, self.row)
        self.refused(self.story, self.paper[:1] + self.paper, "row", 1)
        self.refused(self.story, self.paper + self.paper, "row", 2)
        self.refused(self.story, tuple(reversed(self.paper)), "by", 0, self.row)
        mixed = (self.paper[0], (self.of, None, None), self.paper[1])
        self.refused(self.story, mixed, "row", 1)

    def test_row_goes_ahead_of_by_and_reason(self):
        self.refused(self.story, ((("zz", 0), ("doc",), self.of), self.paper[1]), "row", 0)
        self.refused(self.story, ((self.row, ("doc",), self.of), self.paper[0]), "by", 0, self.row)

    def test_each_row_ahead_of_the_next_one(self):
        self.refused(self.story, ((self.give, ("level", "none"), self.of), (("zz", 0), None, None)), "reason", 0,
                     self.row)
        self.refused(self.story, ((self.give, None, None), (("zz", 0), None, None)), "by", 0, self.row)

    def test_last(self):
        self.refused(self.story, self.paper[:1], "last", -1, self.row)
        self.refused(self.story, self.paper, "last", -1, self.give)
        more = self.story.make("bob", ("row", self.of))
        self.refused(self.story, self.paper + ((more, None, self.give),), "last", -1, self.row)
        self.refused(self.story, self.paper + ((more, None, None),), "by", 2, self.row)
        self.refused(self.story, self.paper + ((more, ("key",), None),), "reason", 2, self.row)

    def test_paper_of_another_document(self):
        paper = stand_paper(self.story.book(), self.apart)
        self.assertEqual([row[0] for row in paper], [self.other, self.apart])
        self.refused(self.story, paper, "row", 0, self.row)


class ByTest(CheckerTest):
    def test_by_the_document_s_key(self):
        story, of = opened("rows")
        row = story.make("ann", ("row", of))
        self.let(story, ((row, None, of),))
        for by in (None, row, ("zz", 0), ("ann", 9)):
            self.refused(story, ((row, None, by),), "by", 0)
        bobs = story.make("bob", ("row", of))
        self.refused(story, ((bobs, None, of),), "by", 0)
        self.refused(story, ((bobs, ("level", "own"), of),), "by", 0)
        self.let(story, ((bobs, ("level", "none"), None),))

    def test_by_the_document_s_key_with_gives(self):
        story, of = opened("rows", bob="own")
        early = story.make("bob", ("give", of, "ann", "see"))
        row = story.make("ann", ("row", of))
        self.refused(story, ((row, None, of),), "by", 0)
        self.refused(story, ((early, None, ("ann", 1)), (row, None, of)), "by", 0)
        self.let(story, ((("ann", 1), None, of), (early, None, ("ann", 1)), (row, ("level", "see"), early)))
        fails = story.make("cy", ("give", of, "ann", "none"), [of])
        self.assertEqual(story.deed(fails)[2], 1)
        wrong = ((fails, ("level", "none"), None), (early, None, ("ann", 1)), (row, ("level", "see"), early))
        self.refused(story, wrong, "by", 1)

    def test_gives_to_be_out_by_the_document_s_key(self):
        story, of = opened("rows")
        fails = story.make("cy", ("give", of, "ann", "none"))
        row = story.make("ann", ("row", of))
        self.refused(story, ((row, None, of),), "by", 0)
        self.let(story, ((fails, ("level", "none"), None), (row, None, of)))

    def test_gives_ahead_of_the_open_are_to_be_out_too(self):
        story = Story()
        early = story.make("ann", ("give", ("bob", 0), "bob", "none"))
        of = story.make("bob", ("open", "rows"))
        row = story.make("bob", ("row", of))
        self.refused(story, ((row, None, of),), "by", 0)
        self.let(story, ((early, ("doc",), None), (row, None, of)))
        self.let(story, ((early, ("doc",), None), (of, None, None), (row, None, of)))
        # Of the "open" itself it isn't looked at whether by HOLDS.
        self.let(story, ((of, None, None),))
        self.refused(story, ((of, None, None), (row, None, of)), "by", 1)
        late = story.make("ann", ("row", of))
        self.let(story, ((late, ("level", "none"), None),))

    def test_by_a_give(self):
        story, of = opened("rows", bob="change")
        one, two = ("ann", 1), story.make("ann", ("give", of, "bob", "see"))
        row = story.make("bob", ("row", of))
        stands = ((one, None, of), (two, None, of))
        self.let(story, stands + ((row, ("level", "see"), two),))
        self.let(story, stands[1:] + ((row, ("level", "see"), two),))
        self.refused(story, stands + ((row, None, one),), "by", 2)
        self.refused(story, stands[:1] + ((row, None, one),), "by", 1)
        self.refused(story, stands[:1] + ((row, ("level", "see"), two),), "by", 1)
        self.refused(story, stands + ((row, ("level", "none"), None),), "by", 2)
        self.refused(story, stands + ((row, None, two),), "reason", 2)
        self.refused(story, stands + ((row, ("level", "tell"), two),), "reason", 2)

    def test_by_a_give_to_another_hand_or_of_another_document(self):
        story, of = opened("rows", bob="change", cy="change")
        other = story.make("ann", ("open", "rows"))
        apart = story.make("ann", ("give", other, "bob", "change"))
        row = story.make("bob", ("row", of))
        stands = ((("ann", 1), None, of), (("ann", 2), None, of))
        self.let(story, stands + ((row, None, ("ann", 1)),))
        self.refused(story, stands + ((row, None, ("ann", 2)),), "by", 2)
        self.refused(story, stands + ((row, None, apart),), "by", 2)

    def test_by_a_give_that_comes_behind(self):
        story, of = opened("rows", bob="change")
        row = story.make("bob", ("row", of))
        late = story.make("ann", ("give", of, "bob", "own"))
        more = story.make("bob", ("row", of))
        stands = ((("ann", 1), None, of), (row, None, ("ann", 1)))
        self.let(story, stands + ((late, None, of), (more, None, late)))
        self.refused(story, ((("ann", 1), None, of), (row, None, late)), "by", 1)

    def test_behind_a_give_those_that_do_not_stand_are_to_be_out(self):
        story, of = opened("rows", bob="change")
        fails = story.make("cy", ("give", of, "bob", "none"))
        row = story.make("bob", ("row", of))
        give = (("ann", 1), None, of)
        self.refused(story, (give, (row, None, ("ann", 1))), "by", 1)
        self.let(story, (give, (fails, ("level", "none"), None), (row, None, ("ann", 1))))

    def test_by_none(self):
        story, of = opened("rows")
        row = story.make("bob", ("row", of))
        self.let(story, ((row, ("level", "none"), None),))
        fails = story.make("bob", ("give", of, "bob", "own"))
        more = story.make("bob", ("row", of))
        self.refused(story, ((more, ("level", "none"), None),), "by", 0)
        self.let(story, ((fails, ("level", "none"), None), (more, ("level", "none"), None)))
        self.refused(story, ((more, ("level", "none"), fails),), "by", 0)
        self.refused(story, ((fails, ("level", "none"), None), (more, ("level", "own"), fails)), "by", 1)

    def test_where_doc_or_key_is_written_by_is_none(self):
        story, of = opened("rows")
        put = story.make("ann", ("put", of, None, "x"))
        undo = story.make("ann", ("undo", of, put))
        self.let(story, ((put, ("doc",), None),))
        self.refused(story, ((put, ("doc",), of),), "by", 0)
        self.refused(story, ((put, ("key",), of),), "by", 0)
        self.refused(story, ((put, ("key",), None),), "reason", 0)
        stands = ((put, ("doc",), None),)
        self.let(story, stands + ((undo, ("key",), None),))
        self.refused(story, stands + ((undo, ("key",), of),), "by", 1)
        self.refused(story, stands + ((undo, ("doc",), None),), "reason", 1)

    def test_of_an_open_by_is_none_and_the_reason_none(self):
        story, of = opened("rows")
        self.refused(story, ((of, None, of),), "by", 0)
        self.refused(story, ((of, ("doc",), of),), "by", 0)
        for reason in (("doc",), ("key",), ("level", "none"), ("level", "own"), ("there", 0)):
            self.refused(story, ((of, reason, None),), "reason", 0)

    def test_where_doc_would_show_by_is_looked_at_all_the_same(self):
        story, of = opened("rows")
        put = story.make("ann", ("put", of, None, "x"))
        bobs = story.make("bob", ("put", of, None, "x"))
        bare = story.make("bob", ("row", ("zz", 0)))
        for reason in (None, ("level", "own"), ("there", 0)):
            self.refused(story, ((put, reason, None),), "by", 0)
            self.refused(story, ((put, reason, of),), "reason", 0)
            self.refused(story, ((bobs, reason, of),), "by", 0)
            self.refused(story, ((bobs, reason, None),), "reason", 0)
            self.refused(story, ((bare, reason, ("zz", 0)),), "by", 0)
            self.refused(story, ((bare, reason, None),), "reason", 0)

    def test_by_none_where_the_open_comes_behind(self):
        story = Story()
        early = story.make("ann", ("row", ("bob", 0)))
        mine = story.make("bob", ("mark", ("bob", 2), None))
        story.make("bob", ("give", ("bob", 2), "bob", "own"))
        of = story.make("bob", ("open", "rows"))
        self.refused(story, ((mine, None, of),), "by", 0)
        self.refused(story, ((mine, None, None),), "reason", 0)
        self.let(story, ((mine, ("doc",), None),))
        self.let(story, ((early, ("doc",), None),))


class ReasonTest(CheckerTest):
    """A text of ann's, with rows of no more than is asked for."""

    def setUp(self):
        self.story, self.of = opened("text")
        self.put = self.story.make("ann", ("put", self.of, None, "abc"))
        self.more = self.story.make("ann", ("suggest", self.of, ("put", None, "xy")))
        self.rows = ((self.put, None, self.of), (self.more, None, self.of))

    def made(self, *what, hand="ann"):
        return self.story.make(hand, (what[0], self.of) + what[1:])

    def shows(self, ahead, one, reason, by="own"):
        """The one REASON that the row SHOWS behind those ahead, by what has its LEVEL; None: all others do not."""
        by = self.of if by == "own" else by
        for other in [None, ("doc",), ("key",), ("there", 0), ("there", 1), ("there", 2)] + [
                ("level", level) for level in LEVELS]:
            paper = ahead + ((one, other, None if other in (("doc",), ("key",)) else by),)
            if other == reason:
                self.let(self.story, paper)
            else:
                self.refused(self.story, paper, "reason", len(ahead))

    def shows_nothing(self, ahead, one):
        self.shows(ahead, one, ("nothing",))

    def test_doc(self):
        self.shows((), self.made("row"), ("doc",))
        bare = self.story.make("bob", ("put", self.put, None, "x"))
        self.shows((), bare, ("doc",), None)
        self.shows((), self.story.make("bob", ("undo", ("zz", 0), self.put)), ("doc",), None)

    def test_level(self):
        self.shows((), self.made("put", None, "x", hand="bob"), ("level", "none"), None)
        self.shows((), self.made("cut", ((self.put, 0),), hand="bob"), ("level", "none"), None)
        self.shows((), self.made("mark", None, hand="bob"), ("level", "none"), None)

    def test_there_by_rows(self):
        cut = self.made("cut", ((self.put, 0), (self.put, 2)))
        self.shows(self.rows[:1], cut, None)
        self.shows_nothing((), cut)
        self.shows_nothing(self.rows[1:], cut)

    def test_gone_by_the_book_alone(self):
        for name in ((self.put, 3), (("zz", 0), 0), (self.of, 0), (("ann", 10 ** 6), 0)):
            self.shows((), self.made("put", name, "x"), ("there", 0))
        self.shows((), self.made("take", self.put), ("there", 0))
        self.shows((), self.made("close", self.put), ("there", 0))
        self.shows((), self.made("mark", self.put), ("there", 0))

    def test_gone_by_the_book_for_it_is_of_another_document_or_behind(self):
        other = self.story.make("ann", ("open", "text"))
        apart = self.story.make("ann", ("put", other, None, "x"))
        self.shows((), self.made("put", (apart, 0), "x"), ("there", 0))
        later = ("ann", self.made("mark", None)[1] + 2)
        one = self.made("put", (later, 0), "x")
        self.assertEqual(self.made("put", None, "x"), later)
        self.shows((), one, ("there", 0))

    def test_gone_for_it_is_out(self):
        fails = self.made("put", None, "x", hand="bob")
        behind = self.made("put", (fails, 0), "x")
        self.shows(((fails, ("level", "none"), None),), behind, ("there", 0))
        self.shows_nothing((), behind)

    def test_which_thing(self):
        names = ((self.put, 0), (self.put, 3), (("zz", 0), 0))
        cut = self.made("cut", names)
        self.shows(self.rows, cut, ("there", 1))
        self.shows_nothing((), cut)
        self.shows((), self.made("cut", names[1:]), ("there", 0))

    def test_a_thing_beyond(self):
        mark = self.made("mark", None)
        self.shows((), mark, None)
        self.refused(self.story, ((mark, ("there", 10 ** 199), self.of),), "reason", 0)

    def test_a_name_of_a_suggestion(self):
        early = self.made("mark", (self.more, 0))
        self.shows((), early, ("there", 0))
        self.shows(self.rows, early, ("there", 0))
        fails = self.made("take", self.more, hand="bob")
        low = (fails, ("level", "none"), None)
        between = self.made("mark", (self.more, 0))
        self.shows_nothing(self.rows, between)
        self.shows((low,), between, ("there", 0))
        self.shows(self.rows + (low,), between, ("there", 0))
        take = self.made("take", self.more)
        late = self.made("mark", (self.more, 1))
        self.shows_nothing(self.rows, late)
        self.shows_nothing(self.rows + (low,), late)
        taken = self.rows[1:] + (low, (take, None, self.of))
        self.shows(taken, late, None)
        self.shows((), self.made("mark", (self.more, 2)), ("there", 0))

    def test_a_take_stands_only_behind_its_suggestion_and_all_other_ends_out(self):
        fails = self.made("refuse", self.more, hand="bob")
        take = self.made("take", self.more)
        low = (fails, ("level", "none"), None)
        self.shows_nothing((low,), take)
        self.shows_nothing(self.rows[1:], take)
        self.shows(self.rows[1:] + (low,), take, None)
        done = self.rows[1:] + (low, (take, None, self.of))
        for word_of in ("take", "refuse"):
            more = self.made(word_of, self.more)
            self.shows(done, more, ("there", 0))
            self.shows_nothing(done[:-1], more)
            self.shows_nothing(done[1:-1], more)

    def test_each_take_counts_wherever_it_stands(self):
        # It is ahead of its suggestion in ORDER, so can't stand: but that is known by its row alone.
        later = ("ann", self.more[1] + 2)
        early = self.made("take", later)
        self.assertEqual(self.made("suggest", ("put", None, "z")), later)
        mark = self.made("mark", (later, 0))
        row = (early, ("there", 0), self.of)
        self.let(self.story, (row,))
        self.shows_nothing((), mark)
        self.shows((row,), mark, ("there", 0))
        stands = ((later, None, self.of),)
        take = self.made("take", later)
        self.shows_nothing(stands, take)
        self.shows((row,) + stands, take, None)

    def test_takes_of_another_document_do_not_count(self):
        other = self.story.make("ann", ("open", "text"))
        apart = self.story.make("ann", ("take", other, self.more))
        self.assertEqual(reason_of(self.story.book(), apart), ("there", 0))
        self.shows(self.rows[1:], self.made("take", self.more), None)

    def test_a_suggested_cut_has_no_names(self):
        less = self.made("suggest", ("cut", ((self.put, 0),)))
        self.made("take", less)
        self.shows((), self.made("mark", (less, 0)), ("there", 0))

    def test_undo_of_what_is_there(self):
        undo = self.made("undo", self.put)
        self.shows(self.rows[:1], undo, None)
        self.shows_nothing((), undo)
        bobs = self.made("mark", None, hand="bob")
        turn = self.made("undo", bobs, hand="bob")
        self.shows(((bobs, ("level", "none"), None),), turn, ("key",), None)

    def test_undo_by_who_may_no_more(self):
        give = self.made("give", "bob", "change")
        put = self.made("put", None, "x", hand="bob")
        back = self.made("give", "bob", "see")
        undo = self.made("undo", put, hand="bob")
        ahead = ((give, None, self.of), (put, None, give), (back, None, self.of))
        self.shows(ahead, undo, ("level", "see"), back)
        self.refused(self.story, ahead[2:] + ((undo, ("level", "see"), back),), "reason", 1)

    def test_undo_of_what_is_gone_by_the_book(self):
        mark = self.made("mark", None, hand="bob")
        undo = self.made("undo", self.put)
        for one in (self.of, undo, mark, ("zz", 0), ("ann", 10 ** 6)):
            self.shows((), self.made("undo", one), ("key",))
            self.shows((), self.made("redo", one), ("key",))

    def test_undo_of_a_suggestion(self):
        early = self.made("undo", self.more)
        self.shows_nothing((), early)
        self.shows(self.rows, early, None)
        take = self.made("take", self.more)
        late = self.made("redo", self.more)
        self.shows_nothing(self.rows, late)
        self.shows(self.rows + ((take, None, self.of),), late, ("key",))


class ToldTest(Refusing):
    def test_the_rows(self):
        story, of = opened("rows", bob="change")
        row = story.make("bob", ("row", of))
        paper = stand_paper(story.book(), row)
        self.assertEqual(paper[-1], (row, None, ("ann", 1)))
        self.assertEqual(lets_stand(story.book(), row, paper), None)

    def test_what_is_handed_in_stays(self):
        story, of = opened("rows")
        thing = [[of, None, None]]
        for paper in (thing, (thing[0],)):
            self.no_paper("shape", -1 if paper is thing else 0, lets_stand, story.book(), of, paper)
        self.assertEqual(thing, [[of, None, None]])
        asked = ["ann", 0]
        self.no_key(asked, lets_stand, story.book(), asked, ())
        self.assertEqual(asked, ["ann", 0])

    def test_each_by_is_told_somewhere(self):
        seen = set()
        for plain in ALL:
            for deed in plain.book:
                for one, reason, by in stand_paper(plain.book, key(deed)):
                    seen.add(None if by is None else word(plain.table[by]))
        self.assertEqual(seen, {None, "open", "give"})


if __name__ == "__main__":
    unittest.main()
