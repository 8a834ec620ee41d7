import itertools
import random
import unittest

from hingemount.albums import Album
from hingemount.errors import NoFriends, NoPaper
from hingemount.papers import is_paper, most_gaps, shown_by
from tests.friends import WIDE, doubles_in, friends_by_chance, is_paper_by, lacks, places_of
from tests.things import FORTY, NOTHINGS, ONE, deep, state

BOOK = (("a", 1900, 3), ("b", 1900, 2))


def three():
    """Friend 0 has doubles of (0, 0), friend 1 of (0, 1), friend 2 of (0, 2): each lacks the two others."""
    return (
        Album(BOOK, "anna", ((0, 0, 1), (0, 0, 1), (0, 0, 0), (1, 0, 0), (1, 1, 0))),
        Album(BOOK, "", ((0, 1, 0), (0, 1, 0), (0, 1, 0), (1, 0, 0), (1, 1, 0))),
        Album(BOOK, "cleo", ((0, 2, 1), (0, 2, 1), (1, 0, 0), (1, 1, 0))),
    )


DEARS = ((0, (0, 0, 0), 1), (0, (0, 0, 1), 1), (1, (0, 1, 0), 1), (2, (0, 2, 1), 1))
WISHES = tuple((at, (0, number), 1) for at in range(3) for number in range(3) if at != number)
BY_DEARS = ((0, 0, 0), DEARS, ())
BY_WISHES = ((0, 0, 0), (), WISHES)
GOOD = (BY_DEARS, BY_WISHES)


class IsPaper(unittest.TestCase):
    """Points 62 and 63: what is a paper."""

    def good(self, friends, *things):
        for thing in things:
            self.assertIs(is_paper(friends, thing), True, thing)

    def bad(self, friends, *things):
        for thing in things:
            self.assertIs(is_paper(friends, thing), False, repr(thing)[:200])
            with self.assertRaises(NoPaper, msg=repr(thing)[:200]):
                shown_by(friends, thing)

    def test_by_dears_and_by_wishes(self):
        self.good(three(), *GOOD, ((0, 0, 0), DEARS, WISHES))

    def test_none_where_there_are_no_gives(self):
        friends = (Album(ONE), Album(ONE))
        self.good(friends, ((0, 0), (), ()), ((-5, FORTY), (), ()), ((0, 0), (), ((1, (0, 0), 7),)))
        self.bad(friends, ((0, 0, 0), (), ()), ((0,), (), ()), ((), (), ()), ((0, 0), ((0, (0, 0, 0), 1),), ()))

    def test_a_price_less(self):
        for paper in GOOD:
            levels, dears, wishes = paper
            for at in range(len(dears)):
                self.bad(three(), (levels, dears[:at] + dears[at + 1:], wishes))
            for at in range(len(wishes)):
                self.bad(three(), (levels, dears, wishes[:at] + wishes[at + 1:]))

    def test_prices_and_levels_come_to_one_together(self):
        # With all at 1 from the levels alone no price is wanted, but what goes up goes down.
        one = Album(BOOK, "", ((0, 0, 0), (0, 0, 0)))
        other = Album(BOOK)
        self.good((one, other), ((1, 0), (), ()), ((0, -1), (), ()), ((FORTY, 5), (), ()))
        self.bad((one, other), ((0, 0), (), ()), ((0, 1), (), ()), ((FORTY, FORTY), (), ()))
        self.good((other, one), ((0, 1), (), ()))
        self.bad((other, one), ((1, 0), (), ()))
        dear = (0, (0, 0, 0))
        wish = (1, (0, 0))
        for fall in range(-3, 4):
            for price in range(4):
                for hope in range(4):
                    dears = ((*dear, price),) if price else ()
                    wishes = ((*wish, hope),) if hope else ()
                    told = is_paper((one, other), ((fall, 0), dears, wishes))
                    self.assertIs(told, price + hope + fall >= 1, (fall, price, hope))

    def test_a_give_whose_sum_comes_to_nothing(self):
        for at in range(3):
            levels = (*(0,) * at, -1, *(0,) * (2 - at))
            self.bad(three(), (levels, DEARS, ()), (levels, (), WISHES))
            levels = (*(0,) * at, 1, *(0,) * (2 - at))
            self.bad(three(), (levels, DEARS, ()), (levels, (), WISHES))
            self.good(three(), (levels, DEARS, WISHES))

    def test_levels(self):
        for paper in GOOD:
            _, dears, wishes = paper
            self.good(three(), ((7, 7, 7), dears, wishes), ((-FORTY,) * 3, dears, wishes))
            for levels in ((), (0,), (0, 0), (0, 0, 0, 0), [0, 0, 0], 0, None, {}, "000", (0, 0, "0"), (None, 0, 0)):
                self.bad(three(), (levels, dears, wishes))
            for truth in (True, False):
                for at in range(3):
                    self.bad(three(), ((*(0,) * at, truth, *(0,) * (2 - at)), dears, wishes))
                self.bad(three(), ((truth,) * 3, dears, wishes))

    def test_out_of_order_and_twice(self):
        for dears in itertools.permutations(DEARS):
            self.assertIs(is_paper(three(), ((0, 0, 0), dears, ())), dears == DEARS)
        for wishes in (WISHES[1:] + WISHES[:1], WISHES[::-1], (WISHES[1], WISHES[0], *WISHES[2:])):
            self.bad(three(), ((0, 0, 0), (), wishes))
        for rows in (DEARS, WISHES):
            for at, row in enumerate(rows):
                for twice in (row, (*row[:2], 2)):
                    more = (*rows[:at + 1], twice, *rows[at + 1:])
                    self.bad(three(), ((0, 0, 0), more, ()) if rows == DEARS else ((0, 0, 0), (), more))

    def test_a_stamp_that_is_no_double(self):
        # There alone, not there, of another list, of another friend, no friend at all.
        odd = [(0, (1, 0, 0)), (0, (0, 1, 0)), (0, (0, 3, 0)), (0, (2, 0, 0)), (0, (0, 0, 2)), (0, (0, -1, 0))]
        odd += [(1, (0, 0, 0)), (2, (0, 2, 0)), (3, (0, 0, 0)), (-1, (0, 2, 1)), (-3, (0, 0, 0)), (FORTY, (0, 0, 0))]
        for friend, stamp in odd:
            self.bad(three(), ((0, 0, 0), tuple(sorted((*DEARS, (friend, stamp, 1)))), ()))
            self.bad(three(), ((0, 0, 0), ((friend, stamp, 1),), WISHES))

    def test_a_place_that_is_no_gap(self):
        odd = [(0, (0, 0)), (1, (0, 1)), (0, (1, 0)), (2, (0, 2)), (0, (0, 3)), (0, (2, 0)), (0, (0, -1)), (0, (-1, 1))]
        odd += [(3, (0, 0)), (-1, (0, 0)), (-3, (0, 1)), (FORTY, (0, 0))]
        for friend, place in odd:
            self.bad(three(), ((0, 0, 0), (), tuple(sorted((*WISHES, (friend, place, 1))))))
            self.bad(three(), ((0, 0, 0), DEARS, ((friend, place, 1),)))
        self.good(three(), ((0, 0, 0), DEARS, ((0, (0, 1), 1),)))

    def test_a_price_is_a_whole_number_from_one_on(self):
        for price in (2, 3, FORTY):
            self.good(three(), ((0, 0, 0), (*DEARS[:3], (*DEARS[3][:2], price)), ()))
            self.good(three(), ((0, 0, 0), (), ((*WISHES[0][:2], price), *WISHES[1:])))
        for price in (0, -1, -FORTY, True, False, None, "1", (1,), [1], {}):
            self.bad(three(), ((0, 0, 0), (*DEARS[:3], (*DEARS[3][:2], price)), ()))
            self.bad(three(), ((0, 0, 0), (*DEARS[:3], (*DEARS[3][:2], price)), WISHES))
            self.bad(three(), ((0, 0, 0), (), ((*WISHES[0][:2], price), *WISHES[1:])))
            self.bad(three(), ((0, 0, 0), DEARS, ((*WISHES[0][:2], price), *WISHES[1:])))

    def test_truths_in_numbers_places(self):
        for rows in (DEARS, WISHES):
            for at, (friend, priced, price) in enumerate(rows):
                odd = [(bool(friend), priced, price), (friend, priced, bool(price))]
                for within in range(len(priced)):
                    truth = (*priced[:within], bool(priced[within]), *priced[within + 1:])
                    odd.append((friend, truth, price))
                for row in odd:
                    more = (*rows[:at], row, *rows[at + 1:])
                    self.bad(three(), ((0, 0, 0), more, ()) if rows == DEARS else ((0, 0, 0), (), more))

    def test_lists_in_tuples_places(self):
        self.bad(three(), list(BY_DEARS), [list(part) for part in BY_DEARS], list(BY_WISHES))
        for at in range(3):
            for paper in GOOD:
                self.bad(three(), (*paper[:at], list(paper[at]), *paper[at + 1:]))
        self.bad(three(), ((0, 0, 0), tuple(list(row) for row in DEARS), ()))
        self.bad(three(), ((0, 0, 0), (), tuple(list(row) for row in WISHES)))
        self.bad(three(), ((0, 0, 0), tuple((row[0], list(row[1]), 1) for row in DEARS), ()))
        self.bad(three(), ((0, 0, 0), (), tuple((row[0], list(row[1]), 1) for row in WISHES)))

    def test_other_shapes(self):
        levels = (0, 0, 0)
        self.bad(three(), (levels, DEARS), (levels, DEARS, (), ()), (levels, (), DEARS), (levels, WISHES, ()))
        self.bad(three(), (DEARS, levels, ()), levels, DEARS, WISHES, (), (levels, (), ()))
        for odd in (None, "", "0", 0, {}, {0: 0}, [], ((),), (0,), ([],), ({},), (None,), ("abc",)):
            self.bad(three(), (levels, odd, WISHES), (levels, DEARS, odd), (odd, DEARS, ()))
        for odd in ((), (0,), (0, (0, 0, 0)), (0, (0, 0, 0), 1, 1), (0, (0, 0), 1), (0, 0, 1), [], {}, "abc"):
            self.bad(three(), (levels, (odd,), WISHES))
        for odd in ((), (0,), (0, (0, 1)), (0, (0, 1), 1, 1), (0, (0, 1, 0), 1), (0, 1, 1), [], {}, "abc"):
            self.bad(three(), (levels, DEARS, (odd,)))

    def test_whatever_kind(self):
        self.bad(three(), None, 0, 1, "", *NOTHINGS, deep(20, BY_DEARS), three())
        self.bad(three(), ((0, 0, 0), ((0, (0, 0, 0), 1),) * 1400, ()), ((0, 0, 0), (), ((0, (0, 1), 1),) * 1700))
        many = tuple((at, (0, 0, 0), 1) for at in range(1400))
        self.bad(three(), ((0, 0, 0), many, ()), ((0,) * 9000, (), ()))
        for thing in NOTHINGS:
            self.bad(three(), (thing, DEARS, ()), ((0, 0, 0), thing, WISHES), ((0, 0, 0), DEARS, thing))
            self.bad(three(), ((0, 0, 0), (thing,), WISHES), ((0, 0, 0), DEARS, (thing,)))

    def test_by_names(self):
        self.assertIs(is_paper(thing=BY_DEARS, friends=three()), True)

    def test_told_papers_and_others_by_chance(self):
        chance = random.Random(62)
        good = 0
        for turn in range(300):
            friends = friends_by_chance(chance, BOOK if turn % 2 else WIDE[:2], chance.randint(2, 4), 0.5, 2)
            paper = most_gaps(friends)[3]
            self.good(friends, paper)
            for _ in range(12):
                other = turned(chance, friends, paper)
                told = is_paper_by(friends, other)
                self.assertIs(is_paper(friends, other), told, other)
                good += told and other != paper
        self.assertGreater(good, 300)
        self.assertLess(good, 3000)


def turned(chance, friends, paper):
    """A paper with a level or a price otherwise, or a price more or less."""
    levels, dears, wishes = (list(part) for part in paper)
    at = chance.randrange(len(friends))
    if chance.random() < 0.4:
        levels[at] += chance.choice((-1, 1))
    elif chance.random() < 0.5:
        stamps = sorted(doubles_in(friends[at])) or [(0, 0, 0)]
        reprice(chance, dears, (at, chance.choice(stamps)))
    else:
        places = places_of(friends[0].book())
        gaps = [place for place in places if lacks(friends[at], place)]
        reprice(chance, wishes, (at, chance.choice(gaps or places)))
    return tuple(levels), tuple(dears), tuple(wishes)


def reprice(chance, rows, priced):
    price = dict((row[:2], row[2]) for row in rows).get(priced, 0) + chance.choice((-1, 1))
    rows[:] = sorted([row for row in rows if row[:2] != priced] + ([(*priced, price)] if price else []))


class Shown(unittest.TestCase):
    """Points 62 and 63: what a paper shows."""

    def test_dears_as_often_as_the_stamp_is_among_the_doubles(self):
        # Doubles: one (0, 0, 0), one (0, 0, 1); two (0, 1, 0); one (0, 2, 1).
        self.assertEqual(shown_by(three(), BY_DEARS), 1 + 1 + 2 + 1)
        self.assertEqual(shown_by(three(), BY_WISHES), 6)
        self.assertEqual(shown_by(three(), ((0, 0, 0), DEARS, WISHES)), 11)
        dear = (*DEARS[:2], (1, (0, 1, 0), 10), DEARS[3])
        self.assertEqual(shown_by(three(), ((0, 0, 0), dear, ())), 1 + 1 + 20 + 1)
        self.assertEqual(shown_by(three(), ((0, 0, 0), DEARS, ((0, (0, 1), 10),))), 15)

    def test_levels_come_out(self):
        self.assertEqual(shown_by(three(), ((8, 8, 8), DEARS, ())), 5)
        self.assertEqual(shown_by((Album(ONE), Album(ONE)), ((FORTY, -FORTY), (), ())), 0)

    def test_very_many(self):
        friends = three()
        friends[1].put((0, 1, 0), FORTY)
        self.assertEqual(shown_by(friends, BY_DEARS), 5 + FORTY)
        dears = (*DEARS[:2], (1, (0, 1, 0), FORTY), DEARS[3])
        shown = shown_by(friends, ((0, 0, 0), dears, ()))
        self.assertEqual(shown, 3 + FORTY * (FORTY + 2))
        # What was shown may be a price, a level and a count in its turn.
        friends[1].put((0, 1, 0), shown)
        again = shown_by(friends, ((shown,) * 3, (*DEARS[:2], (1, (0, 1, 0), shown), DEARS[3]), ()))
        self.assertEqual(again, 3 + shown * (shown + FORTY + 2))

    def test_no_exchange_has_more(self):
        chance = random.Random(63)
        for _ in range(60):
            friends = friends_by_chance(chance, WIDE, chance.randint(2, 4), 0.5, 2)
            _, many, _, paper = most_gaps(friends)
            self.assertEqual(shown_by(friends, paper), many)
            for _ in range(6):
                other = turned(chance, friends, paper)
                if is_paper(friends, other):
                    self.assertGreaterEqual(shown_by(friends, other), many)

    def test_kinds_and_names(self):
        self.assertIs(type(shown_by(paper=BY_DEARS, friends=three())), int)

    def test_what_is_handed_in_stays(self):
        friends = three()
        before = [state(friend) for friend in friends]
        shown_by(friends, BY_DEARS)
        is_paper(friends, BY_WISHES)
        with self.assertRaises(NoPaper):
            shown_by(friends, None)
        self.assertEqual([state(friend) for friend in friends], before)


class Friends(unittest.TestCase):
    """Points 5 and 61: NoFriends comes ahead of all else."""

    def test_no_friends(self):
        album = Album(ONE)
        paper = ((0, 0), (), ())
        odd = (None, 0, "", (), (album,), (album,) * 5, [album, album], (album, Album(BOOK)), (album, None), album)
        for thing in (*odd, *NOTHINGS):
            for other in (paper, None, ((0,) * 5, (), ())):
                for ask in (is_paper, shown_by):
                    with self.assertRaises(NoFriends, msg=repr(thing)[:200]):
                        ask(thing, other)


if __name__ == "__main__":
    unittest.main()
