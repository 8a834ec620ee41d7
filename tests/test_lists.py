import copy
import unittest

from hingemount.albums import Album
from hingemount.lists import all_stamps, is_list, is_place, is_stamp, places_many
from tests.things import BOOK, NOTHINGS, ONE


class IsList(unittest.TestCase):
    """Points 2 and 11."""

    def good(self, *books):
        for book in books:
            self.assertIs(is_list(book), True, book)

    def bad(self, *things):
        for thing in things:
            self.assertIs(is_list(thing), False, repr(thing)[:200])

    def test_one_to_four_sets(self):
        sets = tuple(("x", year, 1) for year in range(1900, 1906))
        self.good(sets[:1], sets[:2], sets[:3], sets[:4])
        self.bad((), sets[:5], sets)

    def test_lands(self):
        self.good(*[((land, 1900, 1),) for land in ("a", "z", "az", "abcdefgh", "zzzzzzzz")])
        lands = ("", "abcdefghi", "A", "aZ", "a b", " a", "a ", "a\n", "a1", "1", "a-b", "`", "{", "@", "[", "ab;")
        self.bad(*[((land, 1900, 1),) for land in lands])
        self.bad(*[((land, 1900, 1),) for land in (1, None, True, (), [], ("a",), ["a"], {"a": 1})])

    def test_years(self):
        self.good(*[(("x", year, 1),) for year in (1840, 1841, 1999, 2099, 2100)])
        years = (1839, 2101, 0, -1900, 10 ** 39, True, False, None, "1900", (1900,), [1900], {})
        self.bad(*[(("x", year, 1),) for year in years])

    def test_how_many_stamps(self):
        self.good(*[(("x", 1900, many),) for many in range(1, 7)])
        manies = (0, 7, -1, 10 ** 39, True, False, None, "1", (1,), [1], {})
        self.bad(*[(("x", 1900, many),) for many in manies])

    def test_rising(self):
        self.good(
            (("a", 2100, 1), ("b", 1840, 1)),
            (("a", 1900, 6), ("a", 1901, 1)),
            (("a", 1900, 1), ("aa", 1840, 1)),
            (("az", 1900, 1), ("b", 1900, 1)),
            BOOK,
        )
        self.bad(
            (("b", 1840, 1), ("a", 2100, 1)),
            (("a", 1901, 1), ("a", 1900, 6)),
            (("aa", 1840, 1), ("a", 1900, 1)),
            (("a", 1900, 1), ("b", 1900, 1), ("a", 1901, 1)),
            (("a", 1900, 1), ("c", 1900, 1), ("d", 1900, 1), ("b", 1900, 1)),
        )

    def test_no_two_of_one_land_and_year(self):
        self.bad(
            (("a", 1900, 1), ("a", 1900, 1)),
            (("a", 1900, 1), ("a", 1900, 2)),
            (("a", 1900, 2), ("a", 1900, 1)),
            (("a", 1900, 1), ("b", 1900, 1), ("b", 1900, 2)),
        )

    def test_tuples_alone(self):
        self.bad(
            [("x", 1900, 1)],
            (["x", 1900, 1],),
            ("x", 1900, 1),
            (("x", 1900),),
            (("x", 1900, 1, 1),),
            ((),),
            ({"x": 1, 1900: 1, 1: 1},),
            {("x", 1900, 1): 1},
            (("a", 1900, 1), ["b", 1900, 1]),
            (("a", 1900, 1), None),
            (("a", 1900, 1), "b"),
            (("a", 1900, 1), ("b", "1900", 1)),
            (("a", 1900, 1), (2, 1900, 1)),
        )

    def test_whatever_kind(self):
        self.bad(None, 0, 1, 1900, "", "x", Album(ONE), *NOTHINGS)

    def test_by_name(self):
        self.assertIs(is_list(thing=BOOK), True)


class IsStamp(unittest.TestCase):
    """Points 2 and 11."""

    def good(self, book, *stamps):
        for stamp in stamps:
            self.assertIs(is_stamp(book, stamp), True, stamp)

    def bad(self, book, *things):
        for thing in things:
            self.assertIs(is_stamp(book, thing), False, repr(thing)[:200])

    def test_each_stamp(self):
        self.good(BOOK, *[(0, 0, 0), (0, 1, 1), (1, 0, 0), (1, 0, 1), (2, 0, 0), (2, 2, 1)])
        self.good((("x", 1900, 6),), (0, 5, 0), (0, 5, 1))
        self.good(ONE, (0, 0, 0), (0, 0, 1))

    def test_one_beyond(self):
        self.bad(BOOK, (0, 2, 0), (1, 1, 0), (1, 2, 1), (2, 3, 0), (3, 0, 0), (4, 0, 0))
        self.bad(BOOK, (-1, 0, 0), (0, -1, 0), (0, 0, -1), (0, 0, 2), (10 ** 39, 0, 0), (0, 10 ** 39, 0))
        self.bad(ONE, (0, 1, 0), (1, 0, 0))

    def test_no_truths(self):
        self.bad(BOOK, (False, 0, 0), (True, 0, 0), (0, False, 0), (0, True, 0), (0, 0, False), (0, 0, True))

    def test_other_kinds_within(self):
        for odd in (None, "0", "", (), (0,), [], [0], {}):
            self.bad(BOOK, (odd, 0, 0), (0, odd, 0), (0, 0, odd))

    def test_other_shapes(self):
        self.bad(BOOK, [0, 0, 0], (), (0,), (0, 0), (0, 0, 0, 0), ((0, 0, 0),), {0: 0, 1: 0, 2: 0}, "000")

    def test_whatever_kind(self):
        self.bad(BOOK, None, 0, 1, Album(BOOK), BOOK, *NOTHINGS)

    def test_by_name(self):
        self.assertIs(is_stamp(thing=(1, 0, 1), book=BOOK), True)


class IsPlace(unittest.TestCase):
    """Point 2: a stamp's place."""

    def test_each_place_and_one_beyond(self):
        for place in ((0, 0), (0, 1), (1, 0), (2, 0), (2, 2)):
            self.assertIs(is_place(BOOK, place), True, place)
        for place in ((0, 2), (1, 1), (2, 3), (3, 0), (-1, 0), (0, -1), (0, 10 ** 39)):
            self.assertIs(is_place(BOOK, place), False, place)

    def test_other_kinds_and_shapes(self):
        for thing in ((), (0,), (0, 0, 0), [0, 0], (False, 0), (0, True), ("0", 0), (0, None), None, *NOTHINGS):
            self.assertIs(is_place(BOOK, thing), False, repr(thing)[:200])


class AllStamps(unittest.TestCase):
    """Point 11."""

    def test_rising(self):
        self.assertEqual(all_stamps(ONE), [(0, 0, 0), (0, 0, 1)])
        self.assertEqual(
            all_stamps(BOOK),
            [
                (0, 0, 0), (0, 0, 1), (0, 1, 0), (0, 1, 1),
                (1, 0, 0), (1, 0, 1),
                (2, 0, 0), (2, 0, 1), (2, 1, 0), (2, 1, 1), (2, 2, 0), (2, 2, 1),
            ],
        )

    def test_just_the_stamps_of_the_list(self):
        for book in (ONE, BOOK, tuple(("x", year, 6) for year in range(1900, 1904))):
            near = [
                (at, number, grade)
                for at in range(-1, 6)
                for number in range(-1, 8)
                for grade in range(-1, 4)
            ]
            self.assertEqual(all_stamps(book), [thing for thing in near if is_stamp(book, thing)])
            self.assertEqual(len(all_stamps(book)), 2 * places_many(book))

    def test_the_told_list_is_the_askers_own(self):
        told = all_stamps(BOOK)
        self.assertIs(type(told), list)
        first = copy.copy(told)
        told.clear()
        self.assertEqual(all_stamps(BOOK), first)
        self.assertIsNot(all_stamps(BOOK), all_stamps(BOOK))

    def test_by_name(self):
        self.assertEqual(all_stamps(book=ONE), [(0, 0, 0), (0, 0, 1)])


class PlacesMany(unittest.TestCase):
    """Point 11."""

    def test_how_many(self):
        self.assertEqual(places_many(ONE), 1)
        self.assertEqual(places_many(BOOK), 6)
        self.assertEqual(places_many((("x", 1900, 6),)), 6)
        self.assertEqual(places_many(tuple(("x", year, 6) for year in range(1900, 1904))), 24)

    def test_by_name(self):
        self.assertEqual(places_many(book=BOOK), 6)


if __name__ == "__main__":
    unittest.main()
