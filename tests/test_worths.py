import random
import unittest

from hingemount.albums import Album
from hingemount.errors import NoNumber, NoPrice, NoPrices, NoStamp
from hingemount.lists import all_stamps
from hingemount.worths import worth_by, worth_of
from tests.things import BOOK, FORTY, NOTHINGS, ONE, state

# The place (0, 0) has prices of three years, (2, 1) of one, (1, 0) of a late one; the rest has none.
PRICES = ((0, 0, 1950, 7), (2, 1, 1900, 31), (0, 0, 1840, 4), (1, 0, 2100, 1000000), (0, 0, 2000, 0))
NO_YEARS = (1839, 2101, 0, -1900, 10 ** 39, None, "", "1900", (1900,), (), *NOTHINGS)
NO_STAMPS = (
    (0, 2, 0), (3, 0, 0), (0, 0, 2), (-1, 0, 0),
    (0, 0, False), (False, 0, 0), (0, 0), (0, 0, 0, 0), (), None, 0,
)


def each_price():
    """All places of the greatest list, and years, so that forty prices and more can be taken."""
    return tuple((at, number, 1900 + year, 5) for year in range(2) for at in range(4) for number in range(6))


WIDE = tuple(("x", year, 6) for year in range(1900, 1904))


class OfAStamp(unittest.TestCase):
    """Points 31 and 32: the price in a year, and the worth of one stamp."""

    def setUp(self):
        self.album = Album(BOOK, "mine")

    def told(self, stamp, year):
        return worth_of(self.album, PRICES, stamp, year)

    def test_the_price_of_the_greatest_year_no_later(self):
        for year, pence in ((1840, 4), (1841, 4), (1949, 4), (1950, 7), (1951, 7), (1999, 7), (2000, 0), (2100, 0)):
            self.assertEqual(self.told((0, 0, 1), year), (pence, 0), year)

    def test_in_whatever_order_the_prices_stand(self):
        shuffled = list(PRICES)
        for turn in range(20):
            random.Random(turn).shuffle(shuffled)
            self.assertEqual(worth_of(self.album, tuple(shuffled), (0, 0, 1), 1999), (7, 0))
            self.assertEqual(worth_of(self.album, tuple(shuffled), (0, 0, 1), 1900), (4, 0))
        self.assertEqual(worth_of(self.album, PRICES[::-1], (0, 0, 1)), (0, 0))

    def test_ahead_of_all_prices_of_the_place(self):
        self.assertEqual(self.told((2, 1, 1), 1900), (31, 0))
        for year in (1840, 1899):
            with self.assertRaises(NoPrice):
                self.told((2, 1, 1), year)
        with self.assertRaises(NoPrice):
            self.told((1, 0, 0), 2099)

    def test_the_year_left_out_is_the_last(self):
        self.assertEqual(worth_of(self.album, PRICES, (1, 0, 1)), (1000000, 0))
        self.assertEqual(worth_of(self.album, PRICES, (2, 1, 1)), (31, 0))

    def test_a_hinged_one_is_worth_half(self):
        self.assertEqual(self.told((2, 1, 0), 1900), (15, 1))
        self.assertEqual(self.told((0, 0, 0), 1900), (2, 0))
        self.assertEqual(self.told((0, 0, 0), 1960), (3, 1))
        self.assertEqual(self.told((0, 0, 0), 2000), (0, 0))
        self.assertEqual(worth_of(self.album, ((0, 0, 1900, 1),), (0, 0, 0)), (0, 1))

    def test_a_place_without_any_price(self):
        for stamp in ((0, 1, 0), (0, 1, 1), (2, 0, 1), (2, 2, 0)):
            with self.assertRaises(NoPrice):
                worth_of(self.album, PRICES, stamp)
        with self.assertRaises(NoPrice):
            worth_of(self.album, (), (0, 0, 0))

    def test_whether_the_album_has_it_is_all_one(self):
        before = worth_of(self.album, PRICES, (2, 1, 0))
        self.album.put((2, 1, 0), 5)
        self.assertEqual(worth_of(self.album, PRICES, (2, 1, 0)), before)

    def test_kinds_and_names(self):
        told = worth_of(stamp=(2, 1, 0), year=1950, prices=PRICES, album=self.album)
        self.assertEqual(told, (15, 1))
        self.assertEqual([type(told), *map(type, told)], [tuple, int, int])

    def test_no_stamp(self):
        for thing in (*NO_STAMPS, *NOTHINGS):
            with self.assertRaises(NoStamp):
                worth_of(self.album, PRICES, thing)

    def test_no_year(self):
        for thing in NO_YEARS:
            with self.assertRaises(NoNumber):
                worth_of(self.album, PRICES, (0, 0, 0), thing)

    def test_what_stands_further_to_the_left_first(self):
        with self.assertRaises(NoPrices):
            worth_of(self.album, None, None, None)
        with self.assertRaises(NoPrices):
            worth_of(self.album, [], (0, 0, 0), 1900)
        with self.assertRaises(NoStamp):
            worth_of(self.album, PRICES, None, None)
        with self.assertRaises(NoStamp):
            worth_of(self.album, (), (0, 2, 0))
        with self.assertRaises(NoNumber):
            worth_of(self.album, (), (0, 0, 0), 1839)


class OfAnAlbum(unittest.TestCase):
    """Point 32: all stamps of an album together."""

    def setUp(self):
        self.album = Album(BOOK, "mine", ((2, 1, 0), (0, 0, 1), (2, 1, 0), (2, 1, 1), (0, 0, 0)))

    def test_all_its_stamps(self):
        self.assertEqual(worth_by(self.album, PRICES, 1900), (4 + 2 + 31 + 31, 0))
        self.assertEqual(worth_by(self.album, PRICES, 1950), (7 + 3 + 62, 1))
        self.assertEqual(worth_by(self.album, PRICES), (62, 0))

    def test_several_hinged_ones(self):
        album = Album(BOOK)
        for many, worth in ((1, (15, 1)), (2, (31, 0)), (3, (46, 1)), (4, (62, 0)), (5, (77, 1))):
            album.put((2, 1, 0))
            self.assertEqual(album.count_of((2, 1, 0)), many)
            self.assertEqual(worth_by(album, PRICES), worth)
        album.put((0, 0, 0))
        self.assertEqual(worth_by(album, PRICES, 1950), (81, 0))

    def test_without_stamps(self):
        for prices in ((), PRICES):
            for year in (1840, 2100):
                self.assertEqual(worth_by(Album(BOOK), prices, year), (0, 0))

    def test_as_many_stamps_as_forty_figures_tell(self):
        album = Album(ONE)
        album.put((0, 0, 0), FORTY)
        album.put((0, 0, 1), FORTY)
        self.assertEqual(worth_by(album, ((0, 0, 1840, 999999),)), divmod(999999 * FORTY * 3, 2))
        album.put((0, 0, 0))
        self.assertEqual(worth_by(album, ((0, 0, 1840, 1),)), ((FORTY * 3 + 1) // 2, 0))

    def test_a_stamp_without_price(self):
        self.album.put((2, 0, 0))
        for year in (1900, 2100):
            with self.assertRaises(NoPrice):
                worth_by(self.album, PRICES, year)
        self.album.take((2, 0, 0))
        self.assertEqual(worth_by(self.album, PRICES), (62, 0))
        with self.assertRaises(NoPrice):
            worth_by(self.album, PRICES, 1899)

    def test_as_its_stamps_are_worth_one_by_one(self):
        prices = tuple((at, number, 1900 + at, 5 + 3 * number) for at, number, grade in all_stamps(BOOK) if grade)
        album = Album(BOOK)
        halves = 0
        for more, stamp in enumerate(all_stamps(BOOK)):
            album.put(stamp, more + 1)
            pence, half = worth_of(album, prices, stamp, 1902)
            halves += (more + 1) * (2 * pence + half)
            self.assertEqual(worth_by(album, prices, 1902), divmod(halves, 2))

    def test_kinds_and_names(self):
        told = worth_by(year=1950, prices=PRICES, album=self.album)
        self.assertEqual(told, (72, 1))
        self.assertEqual([type(told), *map(type, told)], [tuple, int, int])

    def test_what_is_handed_in_stays(self):
        before = state(self.album)
        worth_by(self.album, PRICES)
        worth_of(self.album, PRICES, (0, 0, 0))
        for thing in (None, [(0, 0, 1900, 1)]):
            with self.assertRaises(NoPrices):
                worth_by(self.album, thing)
        self.assertEqual(state(self.album), before)

    def test_no_year(self):
        for thing in NO_YEARS:
            with self.assertRaises(NoNumber):
                worth_by(self.album, PRICES, thing)

    def test_what_stands_further_to_the_left_first(self):
        with self.assertRaises(NoPrices):
            worth_by(self.album, None, None)
        with self.assertRaises(NoNumber):
            worth_by(self.album, (), None)
        with self.assertRaises(NoPrice):
            worth_by(self.album, (), 2100)


class NoneArePrices(unittest.TestCase):
    """Point 31: what prices are."""

    def good(self, *things):
        for thing in things:
            self.assertEqual(worth_by(Album(BOOK), thing), (0, 0), thing)

    def bad(self, *things):
        for thing in things:
            with self.assertRaises(NoPrices, msg=repr(thing)[:200]):
                worth_by(Album(BOOK), thing)
            with self.assertRaises(NoPrices, msg=repr(thing)[:200]):
                worth_of(Album(BOOK), thing, (0, 0, 0))

    def bad_rows(self, *rows):
        good = (0, 1, 1900, 1)
        for row in rows:
            self.bad((row,), (row, good), (good, row))

    def test_at_most_forty(self):
        album = Album(WIDE, "x", ((3, 3, 1),))
        self.assertEqual(worth_by(album, each_price()[:40]), (5, 0))
        for many in (41, 48):
            with self.assertRaises(NoPrices):
                worth_by(album, each_price()[:many])
        self.bad(tuple((0, 0, 1900 + more, 1) for more in range(41)))
        self.good(tuple((0, 0, 1900 + more, 1) for more in range(40)))

    def test_bounds(self):
        self.good(((0, 0, 1840, 0),), ((2, 2, 2100, 1000000),), ((1, 0, 1841, 1), (0, 1, 2099, 999999)))
        self.bad_rows((0, 0, 1839, 1), (0, 0, 2101, 1), (0, 0, 1900, -1), (0, 0, 1900, 1000001))
        self.bad_rows((0, 2, 1900, 1), (1, 1, 1900, 1), (2, 3, 1900, 1), (3, 0, 1900, 1), (4, 0, 1900, 1))
        self.bad_rows((-1, 0, 1900, 1), (0, -1, 1900, 1), (0, 0, -1900, 1), (0, 0, 1900, 10 ** 39))

    def test_twice_of_one_place_and_year(self):
        self.bad(((0, 0, 1900, 1), (0, 0, 1900, 1)), ((0, 0, 1900, 1), (0, 1, 1900, 1), (0, 0, 1900, 2)))
        self.good(((0, 0, 1900, 1), (0, 0, 1901, 1), (0, 1, 1900, 1), (2, 0, 1900, 1), (1, 0, 1900, 1)))

    def test_other_kinds_within(self):
        for odd in (True, False, None, "0", "", (), (0,), [], [0], {}, {0: 0}):
            self.bad_rows((odd, 0, 1900, 1), (0, odd, 1900, 1), (0, 0, odd, 1), (0, 0, 1900, odd))

    def test_other_shapes(self):
        self.bad_rows((0, 0, 1900), (0, 0, 1900, 1, 1), (), ((0, 0), 1900, 1), [0, 0, 1900, 1], {0: 1}, None, 0, "0000")
        self.bad([], [(0, 0, 1900, 1)], (0, 0, 1900, 1), {}, {(0, 0, 1900, 1): 1}, Album(BOOK))

    def test_whatever_kind(self):
        self.bad(None, 0, 1, "", *NOTHINGS)


if __name__ == "__main__":
    unittest.main()
