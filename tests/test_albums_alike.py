import unittest

from hingemount.albums import Album
from hingemount.lists import all_stamps
from tests.things import BOOK, NOTHINGS, ONE

STAMPS = ((2, 1, 1), (0, 1, 0), (0, 1, 0))


class Length(unittest.TestCase):
    """Point 23: len is how many unlike stamps there are."""

    def test_len(self):
        self.assertEqual(len(Album(BOOK)), 0)
        self.assertEqual(len(Album(BOOK, "", STAMPS)), 2)
        self.assertEqual(len(Album(BOOK, "", ((0, 0, 0), (0, 0, 1)))), 2)
        self.assertEqual(len(Album(BOOK, "", tuple(all_stamps(BOOK)) * 3)), 12)

    def test_len_follows_the_deeds(self):
        album = Album(BOOK)
        album.put((0, 0, 0), 10 ** 39)
        self.assertEqual(len(album), 1)
        album.take((0, 0, 0), 10 ** 39 - 1)
        self.assertEqual(len(album), 1)
        album.take((0, 0, 0))
        self.assertEqual(len(album), 0)

    def test_truth(self):
        self.assertIs(bool(Album(BOOK, "mine")), False)
        self.assertIs(bool(Album(BOOK, "mine", STAMPS)), True)


class Alike(unittest.TestCase):
    """Points 6 and 23: == and !=."""

    def alike(self, one, other):
        for left, right in ((one, other), (other, one)):
            self.assertIs(left == right, True)
            self.assertIs(left != right, False)

    def unlike(self, one, other):
        for left, right in ((one, other), (other, one)):
            self.assertIs(left == right, False)
            self.assertIs(left != right, True)

    def test_alike(self):
        album = Album(BOOK, "mine", STAMPS)
        self.alike(album, album)
        self.alike(album, Album(BOOK, "mine", STAMPS))
        self.alike(album, Album(BOOK, "mine", STAMPS[::-1]))
        self.alike(album, Album(tuple(list(BOOK)), "yours", STAMPS))
        self.alike(album, Album(BOOK, "", STAMPS))
        self.alike(Album(BOOK), Album(BOOK, "a"))

    def test_alike_after_deeds(self):
        album = Album(BOOK, "", STAMPS)
        album.put((0, 0, 0), 3)
        self.unlike(album, Album(BOOK, "", STAMPS))
        album.take((0, 0, 0), 3)
        self.alike(album, Album(BOOK, "", STAMPS))

    def test_unlike_counts(self):
        album = Album(BOOK, "mine", STAMPS)
        self.unlike(album, Album(BOOK, "mine"))
        self.unlike(album, Album(BOOK, "mine", STAMPS[1:]))
        self.unlike(album, Album(BOOK, "mine", STAMPS[:2]))
        self.unlike(album, Album(BOOK, "mine", (*STAMPS, (2, 1, 1))))
        self.unlike(album, Album(BOOK, "mine", (*STAMPS, (1, 0, 0))))

    def test_each_stamp_counts(self):
        for stamp in all_stamps(BOOK):
            album = Album(BOOK, "mine", STAMPS)
            album.put(stamp)
            self.unlike(album, Album(BOOK, "mine", STAMPS))

    def test_unlike_grades(self):
        self.unlike(Album(BOOK, "", ((0, 0, 0),)), Album(BOOK, "", ((0, 0, 1),)))

    def test_unlike_lists(self):
        for book in (ONE, BOOK[:2], BOOK[1:], (("x", 1900, 2),), (("x", 1901, 1),), (("y", 1900, 1),)):
            if book != ONE:
                self.unlike(Album(ONE), Album(book))
                self.unlike(Album(ONE, "a", ((0, 0, 0),)), Album(book, "a", ((0, 0, 0),)))

    def test_things_of_whatever_kind(self):
        for album in (Album(BOOK), Album(BOOK, "mine", STAMPS)):
            things = (None, 0, 1, 2, "", "mine", (), BOOK, BOOK[0], album.all_of(), str(album), repr(album))
            for thing in (*things, dict(album.all_of()), (album,), [album], {"a": album}, *NOTHINGS):
                self.unlike(album, thing)


class Shown(unittest.TestCase):
    """Points 23 and 81: repr and str."""

    def test_repr(self):
        self.assertEqual(repr(Album(BOOK, "mine", STAMPS)), "Album(mine, 3 stamps)")
        self.assertEqual(repr(Album(BOOK, "mine", STAMPS[:1])), "Album(mine, 1 stamps)")
        self.assertEqual(repr(Album(BOOK)), "Album(, 0 stamps)")
        self.assertEqual(repr(Album(BOOK, "abcdefgh", ((0, 0, 0), (0, 0, 1)))), "Album(abcdefgh, 2 stamps)")

    def test_repr_of_many(self):
        album = Album(BOOK, "big", STAMPS)
        album.put((0, 0, 0), int("9" * 40))
        self.assertEqual(repr(album), f"Album(big, 1{'0' * 39}2 stamps)")

    def test_str_without_name_or_stamps(self):
        self.assertEqual(str(Album(ONE)), "album\nlist x 1900 1")
        self.assertEqual(str(Album(ONE, "a")), "album a\nlist x 1900 1")
        self.assertEqual(str(Album(ONE, "", ((0, 0, 0),))), "album\nlist x 1900 1\n0.0 hinged 1")

    def test_str(self):
        self.assertEqual(
            str(Album(BOOK, "mine", ((2, 2, 0), *STAMPS, (2, 1, 0)))),
            "album mine\n"
            "list aland 1900 2;aland 1901 1;bland 1880 3\n"
            "0.1 hinged 2\n"
            "2.1 hinged 1\n"
            "2.1 whole 1\n"
            "2.2 hinged 1",
        )

    def test_str_follows_the_deeds(self):
        album = Album(ONE, "a", ((0, 0, 1), (0, 0, 0)))
        album.take((0, 0, 0))
        album.put((0, 0, 1), 9)
        self.assertEqual(str(album), "album a\nlist x 1900 1\n0.0 whole 10")

    def test_str_of_many(self):
        album = Album((("abcdefgh", 2100, 6),), "a")
        for many in (10 ** 39, int("9" * 40) + 1, 10 ** 60 - 1, 10 ** 60, 10 ** 60 + 7, 12 * 10 ** 119):
            album.put((0, 5, 1), many)
            self.assertEqual(str(album), f"album a\nlist abcdefgh 2100 6\n0.5 whole {many}")
            album.take((0, 5, 1), many)

    def test_more_figures_than_python_writes_at_once(self):
        album = Album(ONE, "a")
        album.put((0, 0, 1), 10 ** 5000)
        figures = "1" + "0" * 5000
        self.assertEqual(str(album), f"album a\nlist x 1900 1\n0.0 whole {figures}")
        self.assertEqual(repr(album), f"Album(a, {figures} stamps)")


class Twin(unittest.TestCase):
    """Point 23: copies that do not hang on one another."""

    def test_the_same(self):
        for album in (Album(BOOK), Album(BOOK, "mine", STAMPS)):
            twin = album.twin()
            self.assertIs(type(twin), Album)
            self.assertIsNot(twin, album)
            self.assertEqual(twin.book(), BOOK)
            self.assertEqual(twin.called(), album.called())
            self.assertEqual(twin.all_of(), album.all_of())
            self.assertEqual(twin, album)

    def test_far_too_many_to_list_one_by_one(self):
        album = Album(ONE, "big")
        album.put((0, 0, 1), int("9" * 40))
        self.assertEqual(album.twin().all_of(), [((0, 0, 1), int("9" * 40))])

    def test_neither_hangs_on_the_other(self):
        album = Album(BOOK, "mine", STAMPS)
        twin = album.twin()
        twin.put((0, 0, 0))
        twin.take((0, 1, 0), 2)
        self.assertEqual(album, Album(BOOK, "mine", STAMPS))
        again = twin.twin()
        twin.take((0, 0, 0))
        album.put((1, 0, 0), 5)
        self.assertEqual(twin.all_of(), [((2, 1, 1), 1)])
        self.assertEqual(again.all_of(), [((0, 0, 0), 1), ((2, 1, 1), 1)])
        self.assertEqual(album.all_of(), [((0, 1, 0), 2), ((1, 0, 0), 5), ((2, 1, 1), 1)])


if __name__ == "__main__":
    unittest.main()
