import unittest

from hingemount.albums import Album, joined, parted, parting
from hingemount.errors import NoSets
from tests.things import BOOK, FORTY, NOTHINGS, ONE, state


class Joining(unittest.TestCase):
    """Point 24: joined."""

    def setUp(self):
        self.one = Album(BOOK, "one", ((0, 0, 0), (2, 1, 1), (2, 1, 1)))
        self.other = Album(BOOK, "other", ((2, 1, 1), (0, 0, 1), (1, 0, 0)))
        self.all = [((0, 0, 0), 1), ((0, 0, 1), 1), ((1, 0, 0), 1), ((2, 1, 1), 3)]

    def test_all_stamps_of_both_by_the_first_ones_name(self):
        self.assertEqual(state(joined(self.one, self.other)), (BOOK, "one", self.all))
        self.assertEqual(state(joined(self.other, self.one)), (BOOK, "other", self.all))
        self.assertEqual(state(joined(other=self.other, one=self.one)), (BOOK, "one", self.all))

    def test_one_without_name_or_stamps(self):
        empty = Album(BOOK)
        self.assertEqual(state(joined(empty, self.one)), (BOOK, "", self.one.all_of()))
        self.assertEqual(state(joined(self.one, empty)), state(self.one))
        self.assertEqual(state(joined(empty, Album(BOOK, "a"))), (BOOK, "", []))

    def test_with_itself(self):
        self.assertEqual(joined(self.one, self.one).all_of(), [((0, 0, 0), 2), ((2, 1, 1), 4)])

    def test_far_too_many_to_list_one_by_one(self):
        self.one.put((0, 0, 0), FORTY)
        self.other.put((0, 0, 0), FORTY)
        self.assertEqual(joined(self.one, self.other).count_of((0, 0, 0)), 2 * FORTY + 1)

    def test_those_handed_in_stay(self):
        before = state(self.one), state(self.other)
        told = joined(self.one, self.other)
        self.assertIsNot(told, self.one)
        self.assertIsNot(told, self.other)
        self.assertEqual((state(self.one), state(self.other)), before)
        told.put((0, 1, 1), 4)
        told.take((2, 1, 1), 3)
        self.assertEqual((state(self.one), state(self.other)), before)
        told = joined(self.one, self.other)
        self.one.put((0, 1, 0))
        self.other.take((1, 0, 0))
        self.assertEqual(told.all_of(), self.all)

    def test_joined_with_an_empty_one_it_is_another(self):
        told = joined(self.one, Album(BOOK))
        told.put((0, 0, 0))
        self.assertEqual(self.one.count_of((0, 0, 0)), 1)

    def test_joined_again_and_again_it_is_still_written(self):
        album = Album(ONE, "a", ((0, 0, 1),))
        many = 1
        for _ in range(15000):
            album = joined(album, album)
            many = many * 2
        self.assertEqual(album.count_of((0, 0, 1)), many)
        self.assertEqual(len(str(album)), len("album a\nlist x 1900 1\n0.0 whole ") + 4516)


class Parted(unittest.TestCase):
    """Point 24: parted."""

    def setUp(self):
        self.album = Album(BOOK, "mine", ((2, 1, 1), (0, 0, 0), (2, 1, 1), (1, 0, 1), (0, 0, 1)))
        self.rows = [
            [((0, 0, 0), 1), ((0, 0, 1), 1)],
            [((1, 0, 1), 1)],
            [((2, 1, 1), 2)],
        ]

    def of(self, *places):
        return [row for at in places for row in self.rows[at]]

    def test_parted(self):
        for places, others in (
            ((), (0, 1, 2)),
            ((0,), (1, 2)),
            ((1,), (0, 2)),
            ((2,), (0, 1)),
            ((0, 1), (2,)),
            ((0, 2), (1,)),
            ((1, 2), (0,)),
            ((0, 1, 2), ()),
        ):
            told = parted(self.album, places)
            self.assertIs(type(told), tuple)
            self.assertEqual(
                [state(part) for part in told],
                [(BOOK, "mine", self.of(*places)), (BOOK, "mine", self.of(*others))],
            )
            self.assertEqual(state(joined(*told)), state(self.album))

    def test_by_names(self):
        inside, outside = parted(places=(0,), album=self.album)
        self.assertEqual((inside.all_of(), outside.all_of()), (self.of(0), self.of(1, 2)))

    def test_without_stamps(self):
        for places in ((), (0,)):
            self.assertEqual([state(part) for part in parted(Album(ONE), places)], [(ONE, "", [])] * 2)

    def test_far_too_many_to_list_one_by_one(self):
        self.album.put((1, 0, 0), FORTY)
        inside, outside = parted(self.album, (1,))
        self.assertEqual(inside.count_of((1, 0, 0)), FORTY)
        self.assertEqual(outside.count_of((1, 0, 0)), 0)
        self.assertEqual(parted(self.album, (0,))[1].count_of((1, 0, 0)), FORTY)

    def test_the_one_handed_in_stays(self):
        before = state(self.album)
        for places in ((), (1,), (0, 1, 2)):
            inside, outside = parted(self.album, places)
            for part in (inside, outside):
                self.assertIsNot(part, self.album)
                part.put((1, 0, 0), 3)
                self.assertEqual(state(self.album), before)
            self.assertEqual(len(inside) + len(outside), 6)
        inside, outside = parted(self.album, (1,))
        self.album.put((1, 0, 0))
        self.album.put((0, 1, 0))
        self.assertEqual((inside.all_of(), outside.all_of()), (self.of(1), self.of(0, 2)))

    def test_no_sets(self):
        before = state(self.album)
        falling = ((1, 0), (0, 0), (2, 1), (0, 2, 1), (0, 1, 1), (0, 1, 2, 2))
        beyond = ((3,), (0, 3), (-1,), (-1, 0), (10 ** 39,), (0, 1, 2, 3))
        odd = ((0, True), (False,), (False, 1), (0, None), ("0",), (0, "1"), ((0,),), (0, (1,)))
        for thing in (None, 0, 1, "", "01", *falling, *beyond, *odd, [0, 1], {0: 1}, self.album, *NOTHINGS):
            with self.assertRaises(NoSets):
                parted(self.album, thing)
            self.assertEqual(state(self.album), before)
        with self.assertRaises(NoSets):
            parted(Album(ONE), (1,))


class Parting(unittest.TestCase):
    """Point 24: parting."""

    def test_where_the_counts_are_unlike(self):
        one = Album(BOOK, "one", ((2, 1, 1), (2, 1, 1), (0, 0, 0), (0, 1, 1), (1, 0, 0)))
        other = Album(BOOK, "other", ((2, 1, 1), (2, 2, 0), (0, 0, 1), (0, 1, 1), (1, 0, 0)))
        told = [((0, 0, 0), 1, 0), ((0, 0, 1), 0, 1), ((2, 1, 1), 2, 1), ((2, 2, 0), 0, 1)]
        self.assertEqual(parting(one, other), told)
        self.assertEqual(parting(other=other, one=one), told)
        self.assertEqual(parting(other, one), [(stamp, yours, mine) for stamp, mine, yours in told])

    def test_nothing_where_they_are_alike(self):
        album = Album(BOOK, "a", ((2, 1, 1), (0, 0, 0)))
        self.assertEqual(parting(album, album), [])
        self.assertEqual(parting(album, album.twin()), [])
        self.assertEqual(parting(Album(BOOK), Album(BOOK, "b")), [])

    def test_large_counts(self):
        one, other = Album(ONE), Album(ONE)
        one.put((0, 0, 1), FORTY)
        other.put((0, 0, 1), FORTY - 1)
        self.assertEqual(parting(one, other), [((0, 0, 1), FORTY, FORTY - 1)])
        self.assertEqual(parting(one, Album(ONE)), [((0, 0, 1), FORTY, 0)])

    def test_those_handed_in_stay(self):
        one, other = Album(BOOK, "one", ((2, 1, 1),)), Album(BOOK, "other", ((0, 0, 0),))
        told = parting(one, other)
        self.assertIs(type(told), list)
        told.clear()
        self.assertEqual(parting(one, other), [((0, 0, 0), 0, 1), ((2, 1, 1), 1, 0)])
        self.assertEqual(state(one), (BOOK, "one", [((2, 1, 1), 1)]))
        self.assertEqual(state(other), (BOOK, "other", [((0, 0, 0), 1)]))
        self.assertEqual((len(one), len(other)), (1, 1))


if __name__ == "__main__":
    unittest.main()
