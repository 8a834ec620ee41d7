import unittest

from hingemount.albums import Album
from hingemount.errors import NoList, NoName, NoNumber, NoStamp, NoStamps, Short
from tests.things import BOOK, FORTY, NOTHINGS, ONE, state


class Made(unittest.TestCase):
    """Point 21: what an album is made of."""

    def test_of_a_list_alone(self):
        album = Album(BOOK)
        self.assertEqual(state(album), (BOOK, "", []))
        self.assertEqual(state(Album(book=BOOK)), (BOOK, "", []))

    def test_with_a_name(self):
        for name in ("", "a", "z", "mine", "abcdefgh"):
            self.assertEqual(state(Album(BOOK, name)), (BOOK, name, []))
            self.assertEqual(state(Album(BOOK, name, None)), (BOOK, name, []))
            self.assertEqual(state(Album(BOOK, name, ())), (BOOK, name, []))

    def test_stamps_in_whatever_order(self):
        stamps = ((2, 0, 1), (0, 1, 0), (2, 0, 0), (0, 0, 1))
        told = [((0, 0, 1), 1), ((0, 1, 0), 1), ((2, 0, 0), 1), ((2, 0, 1), 1)]
        self.assertEqual(Album(BOOK, "", stamps).all_of(), told)
        self.assertEqual(Album(BOOK, "", stamps[::-1]).all_of(), told)

    def test_stamps_more_than_once(self):
        stamps = ((2, 0, 1), (0, 1, 0), (2, 0, 1), (0, 1, 0), (2, 0, 1))
        self.assertEqual(Album(BOOK, "a", stamps).all_of(), [((0, 1, 0), 2), ((2, 0, 1), 3)])
        self.assertEqual(Album(ONE, "a", ((0, 0, 0),) * 2000).all_of(), [((0, 0, 0), 2000)])

    def test_by_names(self):
        album = Album(stamps=((0, 0, 1),), name="mine", book=BOOK)
        self.assertEqual(state(album), (BOOK, "mine", [((0, 0, 1), 1)]))
        self.assertEqual(state(Album(BOOK, stamps=((0, 0, 1),))), (BOOK, "", [((0, 0, 1), 1)]))

    def test_no_list(self):
        for thing in (None, 0, "", (), list(BOOK), BOOK[::-1], (("x", 1900, 7),), Album(ONE), *NOTHINGS):
            with self.assertRaises(NoList):
                Album(thing)

    def test_no_name(self):
        names = ("A", "abcdefghi", "a b", " ", "a1", "a\n", "-", "`", "{")
        others = (None, 0, 1, True, False, (), [], {}, ("a",), ["a"], Album(ONE), (("x", 1900, 1),))
        for thing in (*names, *others):
            with self.assertRaises(NoName):
                Album(BOOK, thing)
            with self.assertRaises(NoName):
                Album(BOOK, thing, ((0, 0, 0),))

    def test_no_stamps(self):
        for thing in (0, 1, "", [], [(0, 0, 0)], {}, {(0, 0, 0): 1}, (0, 0, 0), Album(BOOK), *NOTHINGS):
            with self.assertRaises(NoStamps):
                Album(BOOK, "", thing)

    def test_one_that_is_no_stamp(self):
        for odd in ((0, 2, 0), (3, 0, 0), (0, 0, 2), (-1, 0, 0), (0, 0, True), [0, 0, 0], None, (0, 0)):
            for stamps in ((odd,), ((0, 0, 0), odd), (odd, (0, 0, 0)), ((0, 0, 0), odd, (0, 0, 0))):
                with self.assertRaises(NoStamps):
                    Album(BOOK, "", stamps)

    def test_the_left_one_first(self):
        with self.assertRaises(NoList):
            Album((), "A", 7)
        with self.assertRaises(NoList):
            Album(stamps=7, name="A", book=())
        with self.assertRaises(NoName):
            Album(BOOK, "A", 7)
        with self.assertRaises(NoStamps):
            Album(BOOK, "a", 7)


class Put(unittest.TestCase):
    """Point 21: put."""

    def test_one_where_it_is_left_out(self):
        album = Album(BOOK)
        self.assertIsNone(album.put((0, 1, 0)))
        self.assertEqual(album.all_of(), [((0, 1, 0), 1)])
        album.put((0, 1, 0))
        self.assertEqual(album.all_of(), [((0, 1, 0), 2)])

    def test_several(self):
        album = Album(BOOK, "", ((2, 2, 1),))
        self.assertIsNone(album.put((2, 2, 1), 5))
        album.put((0, 0, 0), 1)
        album.put((0, 0, 1), 2)
        self.assertEqual(album.all_of(), [((0, 0, 0), 1), ((0, 0, 1), 2), ((2, 2, 1), 6)])

    def test_forty_figures(self):
        album = Album(BOOK)
        album.put((1, 0, 1), FORTY)
        self.assertEqual(album.count_of((1, 0, 1)), FORTY)
        album.put((1, 0, 1), FORTY)
        self.assertEqual(album.count_of((1, 0, 1)), 2 * FORTY)
        album.put((1, 0, 1))
        self.assertEqual(album.count_of((1, 0, 1)), 2 * FORTY + 1)

    def test_by_names(self):
        album = Album(BOOK)
        album.put(many=3, stamp=(0, 0, 0))
        album.put(stamp=(0, 0, 0))
        self.assertEqual(album.all_of(), [((0, 0, 0), 4)])


class Take(unittest.TestCase):
    """Point 21: take."""

    def setUp(self):
        self.album = Album(BOOK, "a", ((0, 0, 0), (2, 1, 1), (2, 1, 1), (2, 1, 1)))

    def test_one_where_it_is_left_out(self):
        self.assertIsNone(self.album.take((2, 1, 1)))
        self.assertEqual(self.album.all_of(), [((0, 0, 0), 1), ((2, 1, 1), 2)])

    def test_several(self):
        self.assertIsNone(self.album.take((2, 1, 1), 2))
        self.assertEqual(self.album.all_of(), [((0, 0, 0), 1), ((2, 1, 1), 1)])

    def test_the_last_one(self):
        self.album.take((2, 1, 1), 3)
        self.assertEqual(self.album.all_of(), [((0, 0, 0), 1)])
        self.assertEqual(self.album.count_of((2, 1, 1)), 0)
        self.album.take((0, 0, 0))
        self.assertEqual(self.album.all_of(), [])

    def test_put_again_behind_the_last_one(self):
        self.album.take((0, 0, 0), 1)
        self.album.put((0, 0, 0), 2)
        self.assertEqual(self.album.count_of((0, 0, 0)), 2)

    def test_forty_figures(self):
        self.album.put((0, 0, 0), FORTY)
        self.album.take((0, 0, 0), FORTY)
        self.assertEqual(self.album.count_of((0, 0, 0)), 1)

    def test_by_names(self):
        self.album.take(many=2, stamp=(2, 1, 1))
        self.album.take(stamp=(2, 1, 1))
        self.assertEqual(self.album.all_of(), [((0, 0, 0), 1)])

    def test_short_by_how_many_lack(self):
        before = state(self.album)
        rows = (
            ((0, 0, 0), 2, 1),
            ((0, 0, 0), FORTY, FORTY - 1),
            ((2, 1, 1), 4, 1),
            ((2, 1, 1), 10, 7),
            ((1, 0, 0), 1, 1),
            ((0, 0, 1), 3, 3),
        )
        for stamp, many, by in rows:
            with self.assertRaises(Short) as caught:
                self.album.take(stamp, many)
            self.assertEqual(caught.exception.by, by)
            self.assertEqual(state(self.album), before)
        with self.assertRaises(Short) as caught:
            self.album.take((1, 0, 0))
        self.assertEqual(caught.exception.by, 1)
        self.assertEqual(len(self.album), 2)


class Refused(unittest.TestCase):
    """Points 5 and 21: what put and take refuse."""

    def setUp(self):
        self.album = Album(BOOK, "a", ((0, 0, 0), (2, 1, 1)))
        self.before = state(self.album)

    def refuse(self, error, *args):
        for deed in (self.album.put, self.album.take):
            with self.assertRaises(error):
                deed(*args)
            self.assertEqual(state(self.album), self.before)

    def test_no_stamp(self):
        beyond = ((0, 2, 0), (3, 0, 0), (0, 0, 2), (-1, 0, 0), (0, -1, 0), (0, 0, -1), (0, 0, True), (0, 0))
        for thing in (None, 0, 1, "", (), *beyond, Album(BOOK), *NOTHINGS):
            self.refuse(NoStamp, thing)
            self.refuse(NoStamp, thing, 1)

    def test_no_number(self):
        for thing in (None, 0, "", (), "1", (1,), Album(BOOK), *NOTHINGS):
            self.refuse(NoNumber, (0, 0, 0), thing)
            self.refuse(NoNumber, (1, 0, 0), thing)

    def test_the_left_one_first(self):
        self.refuse(NoStamp, (0, 2, 0), 0)
        self.refuse(NoStamp, None, None)
        with self.assertRaises(NoStamp):
            self.album.take(many=0, stamp=(0, 2, 0))
        with self.assertRaises(NoNumber):
            self.album.take((1, 0, 0), 0)


if __name__ == "__main__":
    unittest.main()
