import unittest

from hingemount.albums import Album
from hingemount.errors import NoSet, NoStamp
from hingemount.lists import all_stamps
from tests.things import BOOK, NOTHINGS, ONE

STAMPS = ((2, 1, 1), (0, 1, 0), (0, 0, 1), (2, 1, 0), (2, 1, 1), (0, 1, 0), (0, 1, 0))


class Told(unittest.TestCase):
    """Point 22."""

    def setUp(self):
        self.album = Album(BOOK, "mine", STAMPS)

    def test_list_and_name(self):
        self.assertEqual(self.album.book(), BOOK)
        self.assertIs(type(self.album.book()), tuple)
        self.assertEqual(self.album.called(), "mine")
        self.assertEqual(Album(ONE).book(), ONE)
        self.assertEqual(Album(ONE).called(), "")

    def test_count_of(self):
        counts = {(0, 0, 1): 1, (0, 1, 0): 3, (2, 1, 0): 1, (2, 1, 1): 2}
        for stamp in all_stamps(BOOK):
            self.assertEqual(self.album.count_of(stamp), counts.get(stamp, 0), stamp)
        self.assertEqual(self.album.count_of(stamp=(0, 1, 0)), 3)

    def test_count_of_no_stamp(self):
        for thing in (None, 0, (), (0, 2, 0), (3, 0, 0), (0, 0, 2), (0, 0, False), [0, 0, 0], *NOTHINGS):
            with self.assertRaises(NoStamp):
                self.album.count_of(thing)

    def test_asking_leaves_nothing(self):
        album = Album(BOOK)
        album.count_of((0, 0, 0))
        album.gaps(0)
        album.doubles()
        self.assertEqual(album.all_of(), [])
        self.assertEqual(len(album), 0)

    def test_all_of(self):
        self.assertEqual(
            self.album.all_of(),
            [((0, 0, 1), 1), ((0, 1, 0), 3), ((2, 1, 0), 1), ((2, 1, 1), 2)],
        )
        self.assertEqual(Album(BOOK).all_of(), [])

    def test_all_of_rises_whatever_was_put_last(self):
        self.album.put((1, 0, 0))
        self.album.take((0, 0, 1))
        self.album.put((0, 0, 0), 2)
        self.assertEqual(
            self.album.all_of(),
            [((0, 0, 0), 2), ((0, 1, 0), 3), ((1, 0, 0), 1), ((2, 1, 0), 1), ((2, 1, 1), 2)],
        )

    def test_gaps(self):
        self.assertEqual([self.album.gaps(at) for at in range(3)], [[], [0], [0, 2]])
        self.assertEqual(self.album.gaps(place=2), [0, 2])
        self.assertEqual([Album(BOOK).gaps(at) for at in range(3)], [[0, 1], [0], [0, 1, 2]])
        self.assertEqual(Album((("x", 1900, 6),), "", ((0, 3, 0),)).gaps(0), [0, 1, 2, 4, 5])

    def test_a_stamp_of_either_grade_fills_a_gap(self):
        for grade in (0, 1):
            album = Album(ONE)
            album.put((0, 0, grade), 2)
            self.assertEqual(album.gaps(0), [])
            album.take((0, 0, grade))
            self.assertEqual(album.gaps(0), [])
            album.take((0, 0, grade))
            self.assertEqual(album.gaps(0), [0])

    def test_gaps_of_no_set(self):
        for thing in (None, 3, 4, 10 ** 39, "", (), (0,), (0, 0), Album(BOOK), *NOTHINGS):
            with self.assertRaises(NoSet):
                self.album.gaps(thing)
        with self.assertRaises(NoSet):
            Album(ONE).gaps(1)

    def test_whole_sets(self):
        self.assertEqual(self.album.whole_sets(), [0])
        self.album.put((1, 0, 1))
        self.assertEqual(self.album.whole_sets(), [0, 1])
        self.album.put((2, 0, 0))
        self.album.put((2, 2, 0))
        self.assertEqual(self.album.whole_sets(), [0, 1, 2])
        self.album.take((0, 0, 1))
        self.assertEqual(self.album.whole_sets(), [1, 2])
        self.assertEqual(Album(BOOK).whole_sets(), [])

    def test_told_lists_are_the_askers_own(self):
        album = Album(BOOK, "", (*STAMPS, (1, 0, 1)))
        for ask in (album.all_of, album.doubles, album.whole_sets, lambda: album.gaps(2)):
            told = ask()
            self.assertIs(type(told), list)
            kept = list(told)
            self.assertTrue(kept)
            told.append(told[0])
            told[0] = None
            self.assertEqual(ask(), kept)
            del told[:]
            self.assertEqual(ask(), kept)

    def test_a_told_list_hangs_on_no_later_deed(self):
        every, doubles = self.album.all_of(), self.album.doubles()
        gaps, whole = self.album.gaps(2), self.album.whole_sets()
        self.album.put((2, 0, 0), 4)
        self.album.take((0, 1, 0), 3)
        self.assertEqual(every, [((0, 0, 1), 1), ((0, 1, 0), 3), ((2, 1, 0), 1), ((2, 1, 1), 2)])
        self.assertEqual(doubles, [((0, 1, 0), 2), ((2, 1, 0), 1), ((2, 1, 1), 1)])
        self.assertEqual((gaps, whole), ([0, 2], [0]))


class Doubles(unittest.TestCase):
    """Point 22: of each place one is kept, a whole one where there is one."""

    def told(self, hinged, whole):
        album = Album(ONE)
        if hinged:
            album.put((0, 0, 0), hinged)
        if whole:
            album.put((0, 0, 1), whole)
        return album.doubles()

    def test_of_one_place(self):
        low, high = (0, 0, 0), (0, 0, 1)
        self.assertEqual(self.told(0, 0), [])
        self.assertEqual(self.told(1, 0), [])
        self.assertEqual(self.told(0, 1), [])
        self.assertEqual(self.told(2, 0), [(low, 1)])
        self.assertEqual(self.told(0, 2), [(high, 1)])
        self.assertEqual(self.told(1, 1), [(low, 1)])
        self.assertEqual(self.told(3, 1), [(low, 3)])
        self.assertEqual(self.told(1, 3), [(low, 1), (high, 2)])
        self.assertEqual(self.told(10 ** 39, 0), [(low, 10 ** 39 - 1)])

    def test_rising_over_several_places(self):
        album = Album(BOOK, "", ((2, 0, 1), (2, 0, 1), (0, 1, 1), (0, 1, 0), (0, 0, 0), (1, 0, 0), (1, 0, 0)))
        self.assertEqual(album.doubles(), [((0, 1, 0), 1), ((1, 0, 0), 1), ((2, 0, 1), 1)])

    def test_another_place_keeps_its_own(self):
        album = Album(BOOK, "", ((0, 0, 1), (0, 1, 0), (2, 0, 0), (2, 1, 0)))
        self.assertEqual(album.doubles(), [])


if __name__ == "__main__":
    unittest.main()
