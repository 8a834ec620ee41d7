import itertools
import random
import unittest

from hingemount.albums import Album
from hingemount.bundles import fewest_for, makes_whole
from hingemount.errors import NoOffers, NoSet
from tests.things import FORTY, NOTHINGS, state

BOOK = (("a", 1900, 4), ("b", 1900, 1), ("c", 1900, 6))
NO_SETS = (-1, 3, 10 ** 39, None, "", "0", (), (0,), [0], 1.0, *NOTHINGS)


def lacking(numbers, doubles):
    """An album with all of set 0 but these numbers, nothing of set 2, and so many doubles of set 1."""
    stamps = tuple((0, number, 0) for number in range(4) if number not in numbers)
    album = Album(BOOK, "mine", stamps)
    album.put((1, 0, 1), 1 + doubles)
    return album


def all_ways(gaps, offers):
    """All tuples of places of offers that have all gaps among them."""
    told = []
    for many in range(len(offers) + 1):
        for taken in itertools.combinations(range(len(offers)), many):
            if set(gaps) <= {number for at in taken for number in offers[at][0]}:
                told.append(taken)
    return told


class Fewest(unittest.TestCase):
    """Point 51: the fewest doubles for bundles that make a set whole."""

    def test_no_gap(self):
        for offers in ((), (((0, 1, 2, 3), 1),), (((5,), 99),) * 10):
            self.assertEqual(fewest_for(lacking((), 0), 0, offers), (0, ()))
            self.assertEqual(fewest_for(lacking((), 3), 0, offers), (0, ()))
            self.assertEqual(fewest_for(lacking((0,), 0), 1, offers), (0, ()))

    def test_none_can(self):
        for offers in ((), (((0,), 1),), (((0, 2), 1),), (((0, 2, 3), 1), ((2, 4, 5), 1)), (((5,), 1), ((4,), 1))):
            self.assertIsNone(fewest_for(lacking((0, 1), 1000), 0, offers), offers)

    def test_the_fewest_doubles(self):
        offers = (((0, 1, 2), 9), ((0,), 4), ((1,), 2), ((2, 3), 2), ((0, 3), 3))
        self.assertEqual(fewest_for(lacking((0,), 99), 0, offers), (3, (4,)))
        self.assertEqual(fewest_for(lacking((1,), 99), 0, offers), (2, (2,)))
        self.assertEqual(fewest_for(lacking((0, 1), 99), 0, offers), (5, (2, 4)))
        self.assertEqual(fewest_for(lacking((0, 1, 2), 99), 0, offers), (7, (2, 3, 4)))
        self.assertEqual(fewest_for(lacking((0, 1, 2, 3), 99), 0, offers), (7, (2, 3, 4)))
        self.assertEqual(fewest_for(lacking((0, 2), 99), 0, offers), (5, (3, 4)))
        self.assertEqual(fewest_for(lacking((1, 2), 99), 0, offers), (4, (2, 3)))

    def test_of_so_few_the_first_as_tuples_compare(self):
        one, two = ((0,), 3), ((0,), 3)
        self.assertEqual(fewest_for(lacking((0,), 9), 0, (one, two)), (3, (0,)))
        self.assertEqual(fewest_for(lacking((0,), 9), 0, (((0,), 4), one, two)), (3, (1,)))
        # One bundle further on, or two of which the first stands first.
        several = (((0,), 1), ((0, 1), 3), ((1,), 2))
        self.assertEqual(fewest_for(lacking((0, 1), 9), 0, several), (3, (0, 2)))
        several = (((0, 1), 3), ((0,), 1), ((1,), 2))
        self.assertEqual(fewest_for(lacking((0, 1), 9), 0, several), (3, (0,)))
        several = (((0, 1), 2), ((1,), 1), ((0,), 1), ((1,), 1))
        self.assertEqual(fewest_for(lacking((0, 1), 9), 0, several), (2, (0,)))
        self.assertEqual(fewest_for(lacking((0, 1), 9), 0, several[1:]), (2, (0, 1)))

    def test_just_as_many_doubles_and_one_more(self):
        offers = (((0, 1), 5), ((1,), 7))
        for doubles in (5, 6, 98):
            self.assertEqual(fewest_for(lacking((0, 1), doubles), 0, offers), (5, (0,)))
        for doubles in (0, 1, 4):
            self.assertIsNone(fewest_for(lacking((0, 1), doubles), 0, offers))
        self.assertEqual(fewest_for(lacking((0,), 99), 0, (((0,), 99),)), (99, (0,)))
        self.assertIsNone(fewest_for(lacking((0,), 98), 0, (((0,), 99),)))

    def test_all_doubles_of_the_album_count(self):
        album = Album(BOOK, "", ((0, 0, 0), (0, 0, 0), (0, 1, 0), (0, 1, 1), (1, 0, 1), (1, 0, 1), (1, 0, 0)))
        self.assertEqual(sum(many for _, many in album.doubles()), 4)
        self.assertEqual(fewest_for(album, 0, (((2, 3), 4),)), (4, (0,)))
        self.assertIsNone(fewest_for(album, 0, (((2, 3), 5),)))
        album.put((1, 0, 1), FORTY)
        self.assertEqual(fewest_for(album, 0, (((2, 3), 5),)), (5, (0,)))

    def test_numbers_that_the_set_has_not_fill_nothing(self):
        offers = (((1, 2, 3, 4, 5), 1), ((0, 5), 2))
        self.assertIsNone(fewest_for(Album(BOOK, "", ((0, 1, 0), (0, 1, 0))), 1, (((1, 2, 3, 4, 5), 1),)))
        album = Album(BOOK, "", ((0, 1, 0),) * 9)
        self.assertEqual(fewest_for(album, 1, offers), (2, (1,)))
        self.assertEqual(fewest_for(album, 2, offers), (3, (0, 1)))

    def test_each_offer_once(self):
        self.assertIsNone(fewest_for(lacking((0, 1), 99), 0, (((0,), 1), ((0,), 1))))
        ten = tuple(((at % 4,), 1 + at) for at in range(10))
        self.assertEqual(fewest_for(lacking((0, 1, 2, 3), 99), 0, ten), (10, (0, 1, 2, 3)))

    def test_kinds_and_names(self):
        album = lacking((0, 1), 9)
        before = state(album)
        told = fewest_for(offers=(((0, 1), 3),), place=0, album=album)
        self.assertEqual(told, (3, (0,)))
        self.assertEqual([type(told), *map(type, told)], [tuple, int, tuple])
        self.assertEqual(state(album), before)

    def test_by_chance(self):
        chance = random.Random(51)
        for _ in range(200):
            album = Album(BOOK, "", tuple((2, number, 0) for number in range(6) if chance.random() < 0.3))
            album.put((1, 0, 0), chance.randint(1, 9))
            offers = []
            for _ in range(chance.randint(0, 10)):
                numbers = chance.sample(range(6), chance.randint(1, 3))
                offers.append((tuple(sorted(numbers)), chance.randint(1, 4)))
            offers = tuple(offers)
            ways = all_ways(album.gaps(2), offers)
            best = min([(sum(offers[at][1] for at in taken), taken) for taken in ways], default=None)
            if best is not None and best[0] > sum(many for _, many in album.doubles()):
                best = None
            self.assertEqual(fewest_for(album, 2, offers), best)
            for taken in ways:
                self.assertIs(makes_whole(album, 2, offers, taken), True)
            for _ in range(10):
                thing = tuple(sorted(chance.sample(range(11), chance.randint(0, 4))))
                self.assertIs(makes_whole(album, 2, offers, thing), thing in ways)


class MakesWhole(unittest.TestCase):
    """Point 51: which tuples of places make a set whole."""

    def setUp(self):
        self.album = lacking((0, 1, 2), 0)
        self.offers = (((0, 1), 5), ((2,), 99), ((1, 2, 4), 1), ((0,), 1))

    def told(self, thing):
        return makes_whole(self.album, 0, self.offers, thing)

    def test_those_that_do(self):
        for thing in ((0, 1), (0, 2), (2, 3), (0, 1, 2), (0, 1, 3), (0, 1, 2, 3), (1, 2, 3)):
            self.assertIs(self.told(thing), True, thing)

    def test_those_that_do_not(self):
        for thing in ((), (0,), (1,), (2,), (3,), (0, 3), (1, 2), (1, 3)):
            self.assertIs(self.told(thing), False, thing)

    def test_turned_about_twice_or_beyond(self):
        for thing in ((1, 0), (2, 0), (0, 0, 1), (0, 1, 1), (0, 0, 1, 1), (0, 2, 1), (3, 2, 1, 0)):
            self.assertIs(self.told(thing), False, thing)
        for thing in ((0, 1, 4), (-1, 0, 1), (-4, 1), (-4, -3), (0, -2), (0, 1, 10 ** 39), (4,)):
            self.assertIs(self.told(thing), False, thing)

    def test_truths_and_other_kinds(self):
        for thing in ((False, 1), (0, True), (0, None), ("0", 1), ((0,), 1), ((0, 1),)):
            self.assertIs(self.told(thing), False, thing)
        for thing in ([0, 1], {0: 0, 1: 1}, "01", 0, None):
            self.assertIs(self.told(thing), False, thing)
        for thing in NOTHINGS:
            self.assertIs(self.told(thing), False, repr(thing)[:200])

    def test_where_there_is_no_gap(self):
        for thing in ((), (0,), (1, 2), (0, 1, 2, 3)):
            self.assertIs(makes_whole(self.album, 1, self.offers, thing), True)
        for thing in ((4,), (1, 0), [], [0], None, (True,), "", {}, *NOTHINGS):
            self.assertIs(makes_whole(self.album, 1, self.offers, thing), False)
        self.assertIs(makes_whole(self.album, 1, (), ()), True)

    def test_by_names(self):
        self.assertIs(makes_whole(thing=(0, 1), offers=self.offers, place=0, album=self.album), True)


class Refused(unittest.TestCase):
    """Point 51: what offers are, and what comes first."""

    def setUp(self):
        self.album = lacking((0,), 9)

    def good(self, *things):
        for thing in things:
            fewest_for(self.album, 0, thing)
            makes_whole(self.album, 0, thing, ())

    def bad(self, *things):
        for thing in things:
            for place in (0, 1):
                with self.assertRaises(NoOffers, msg=repr(thing)[:200]):
                    fewest_for(self.album, place, thing)
                with self.assertRaises(NoOffers, msg=repr(thing)[:200]):
                    makes_whole(self.album, place, thing, ())

    def bad_offers(self, *offers):
        for offer in offers:
            self.bad((offer,), (((0,), 1), offer), (offer, ((0,), 1)))

    def test_at_most_ten(self):
        self.good((), (((0,), 1),) * 10)
        self.bad((((0,), 1),) * 11, (((0,), 1),) * 2000)

    def test_numbers(self):
        self.good((((0,), 1),), (((5,), 1),), (((0, 1, 2, 3, 4, 5), 1),), (((0, 5), 1),))
        self.bad_offers(((), 1), ((6,), 1), ((-1,), 1), ((0, 1, 2, 3, 4, 5, 6), 1), ((10 ** 39,), 1), ((-1, 0), 1))
        self.bad_offers(((1, 0), 1), ((0, 0), 1), ((0, 2, 1), 1), ((0, 0, 1, 2, 3, 4, 5), 1), ([0], 1), ([0, 1], 1))
        for odd in (True, False, None, "", "0", (), (0,), [], [0], {}):
            self.bad_offers(((odd,), 1), ((0, odd), 1))

    def test_doubles(self):
        self.good((((0,), 1),), (((0,), 99),))
        for odd in (0, 100, -1, 10 ** 39, True, False, None, "", "1", (), (1,), [], {}):
            self.bad_offers(((0,), odd))

    def test_other_shapes(self):
        self.bad_offers((0, 1), (True, 1), ("0", 1), ({}, 1), ([], 1), (None, 1), (1, (0,)))
        self.bad_offers(((0,),), ((0,), 1, 1), (), [(0,), 1], {(0,): 1}, None, 0, "0", "01")
        self.bad([], [((0,), 1)], {}, ((0,), 1), {((0,), 1): 1}, self.album)

    def test_whatever_kind(self):
        self.bad(None, 0, 1, "", *NOTHINGS)

    def test_no_set_ahead_of_no_offers(self):
        for thing in NO_SETS:
            for offers in ((), None):
                with self.assertRaises(NoSet):
                    fewest_for(self.album, thing, offers)
                with self.assertRaises(NoSet):
                    makes_whole(self.album, thing, offers, None)


if __name__ == "__main__":
    unittest.main()
