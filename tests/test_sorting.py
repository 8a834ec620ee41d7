import itertools
import random
import unittest

from hingemount.albums import Album, doubles_many
from hingemount.errors import NoAlbums, NoPrice, NoPrices, NoWord
from hingemount.sorting import sorted_by
from hingemount.worths import worth_by
from tests.friends import friends_by_chance
from tests.things import BOOK, FORTY, NOTHINGS, ONE, deep, state

WORDS = ("name", "many", "gaps", "doubles", "worth")
PRICES = tuple((at, number, 1900, 10 * at + number) for at, many in ((0, 2), (1, 1), (2, 3)) for number in range(many))


def some():
    """At no two of these words do they stand in the same order."""
    return (
        Album(BOOK, "cleo", ((0, 0, 0), (0, 0, 0), (0, 1, 1))),
        Album(BOOK, "anna", ((0, 0, 1), (1, 0, 1), (2, 0, 0), (0, 0, 0))),
        Album(BOOK, "", ((2, 2, 1),)),
        Album(BOOK, "bert", ((1, 0, 0),) * 4),
    )


def names(albums):
    return [album.called() for album in albums]


class ByWords(unittest.TestCase):
    """Point 71: each word, forth and back."""

    def told(self, word, albums, order):
        """Unlike albums are told in this order, the least first, in whatever order they stood."""
        prices = (PRICES,) if word == "worth" else ()
        for turned in itertools.permutations(albums):
            self.assertEqual(names(sorted_by(word, turned, *prices)), order)
            self.assertEqual(names(sorted_by(word, turned, *prices, back=False)), order)
            self.assertEqual(names(sorted_by(word, turned, *prices, back=True)), order[::-1])
            self.assertEqual(names(sorted_by(word, turned, PRICES, True)), order[::-1])

    def test_name(self):
        self.told("name", some(), ["", "anna", "bert", "cleo"])
        albums = [Album(ONE, name) for name in ("a", "aa", "ab", "b", "ba", "zzzzzzzz")]
        self.told("name", albums, ["a", "aa", "ab", "b", "ba", "zzzzzzzz"])

    def test_many(self):
        self.told("many", (some()[0], *some()[2:]), ["", "cleo", "bert"])
        self.told("many", some()[:3], ["", "cleo", "anna"])

    def test_many_counts_each_as_often_as_it_is_there(self):
        one = Album(BOOK, "one", ((0, 0, 0),) * 5)
        five = Album(BOOK, "five", ((0, 0, 0), (0, 0, 1), (0, 1, 0), (0, 1, 1)))
        self.told("many", (one, five), ["five", "one"])

    def test_gaps(self):
        self.told("gaps", (*some()[:2], some()[2]), ["anna", "cleo", ""])
        self.told("gaps", (some()[1], some()[3]), ["anna", "bert"])

    def test_gaps_of_all_sets(self):
        first = Album(BOOK, "first", ((0, 0, 0), (0, 1, 0)))
        last = Album(BOOK, "last", ((2, 0, 0), (2, 1, 0), (2, 2, 0)))
        self.told("gaps", (first, last), ["last", "first"])

    def test_doubles(self):
        self.told("doubles", (some()[0], some()[3], some()[2]), ["", "cleo", "bert"])
        # Several of one stamp count as often as they are there.
        kinds = Album(BOOK, "kinds", ((0, 0, 0), (0, 0, 1), (0, 1, 0), (0, 1, 1)))
        self.told("doubles", (kinds, some()[3]), ["kinds", "bert"])

    def test_worth(self):
        # Two hinged at 0 and a whole one at 1; 0, 10, half of 20 and half of 0; 22; four times half of 10.
        self.told("worth", (some()[0], some()[1], some()[2]), ["cleo", "anna", ""])
        self.told("worth", (some()[0], some()[2], some()[3]), ["cleo", "bert", ""])

    def test_half_a_penny(self):
        whole = Album(ONE, "whole", ((0, 0, 1),))
        hinged = Album(ONE, "hinged", ((0, 0, 0),) * 3)
        for albums in ((whole, hinged), (hinged, whole)):
            self.assertEqual(names(sorted_by("worth", albums, ((0, 0, 1900, 1),))), ["whole", "hinged"])
        one = Album(ONE, "one", ((0, 0, 0),))
        none = Album(ONE, "none")
        self.assertEqual(names(sorted_by("worth", (one, none), ((0, 0, 1900, 1),))), ["none", "one"])

    def test_worth_in_the_last_year(self):
        one = Album(BOOK, "one", ((0, 0, 1),))
        other = Album(BOOK, "other", ((0, 1, 1),))
        prices = ((0, 0, 1900, 1), (0, 0, 2100, 9), (0, 1, 1900, 5))
        self.assertEqual(names(sorted_by("worth", (one, other), prices)), ["other", "one"])
        self.assertEqual(names(sorted_by("worth", (one, other), prices[::2])), ["one", "other"])

    def test_very_many(self):
        less = Album(ONE, "less")
        more = Album(ONE, "more")
        less.put((0, 0, 0), FORTY - 1)
        more.put((0, 0, 0), FORTY)
        for word in ("many", "doubles", "worth"):
            self.assertEqual(names(sorted_by(word, (more, less), ((0, 0, 1900, 3),))), ["less", "more"])
            self.assertEqual(names(sorted_by(word, (less, more), ((0, 0, 1900, 3),), True)), ["more", "less"])

    def test_like_ones_as_they_stood(self):
        for word in WORDS:
            for back in (False, True):
                for many in range(1, 7):
                    name = "same" if word == "name" else None
                    albums = tuple(Album(BOOK, name or "abcdef"[-at], ((0, at % 2, 0),)) for at in range(many))
                    prices = ((0, 0, 1900, 5), (0, 1, 1900, 5))
                    told = sorted_by(word, albums, prices, back)
                    self.assertEqual([state(album) for album in told], [state(album) for album in albums])

    def test_by_chance(self):
        chance = random.Random(71)
        measures = {
            "name": lambda album: album.called(),
            "many": lambda album: sum(many for _, many in album.all_of()),
            "gaps": lambda album: sum(len(album.gaps(at)) for at in range(3)),
            "doubles": doubles_many,
            "worth": lambda album: worth_by(album, PRICES, 2100),
        }
        for _ in range(100):
            albums = []
            for _ in range(chance.randint(1, 6)):
                album = friends_by_chance(chance, BOOK, 1, 0.5, 1)[0]
                stamps = tuple(stamp for stamp, many in album.all_of() for _ in range(many))
                albums.append(Album(BOOK, chance.choice(("", "a", "b")), stamps))
            for word in WORDS:
                for back in (False, True):
                    told = sorted_by(word, tuple(albums), PRICES, back)
                    wanted = sorted(albums, key=measures[word], reverse=back)
                    self.assertEqual([state(album) for album in told], [state(album) for album in wanted])


class Copies(unittest.TestCase):
    """Points 4 and 71: copies are told, and what is handed in stays."""

    def test_neither_hangs_on_the_other(self):
        for word in WORDS:
            albums = some()
            before = [state(album) for album in albums]
            told = sorted_by(word, albums, PRICES)
            self.assertIs(type(told), list)
            self.assertEqual([type(album) for album in told], [Album] * 4)
            for album in told:
                self.assertFalse(any(album is other for other in albums))
                album.put((0, 0, 0), 9)
            self.assertEqual([state(album) for album in albums], before)
            again = sorted_by(word, albums, PRICES)
            kept = [state(album) for album in again]
            self.assertEqual(sorted(kept), sorted(before))
            albums[0].put((2, 2, 0))
            told.clear()
            self.assertEqual([state(album) for album in again], kept)

    def test_one_album_several_times(self):
        album = some()[0]
        told = sorted_by("many", (album, album))
        told[0].put((0, 0, 0))
        self.assertEqual(state(told[1]), state(album))

    def test_one(self):
        for word in WORDS:
            for back in (False, True):
                told = sorted_by(word, some()[:1], PRICES, back)
                self.assertEqual([state(album) for album in told], [state(some()[0])])

    def test_by_names(self):
        told = sorted_by(back=True, prices=PRICES, albums=some()[:3], word="worth")
        self.assertEqual(names(told), ["", "anna", "cleo"])
        self.assertEqual(names(sorted_by(albums=some(), word="name")), ["", "anna", "bert", "cleo"])


class Refused(unittest.TestCase):
    """Points 5 and 71: NoWord, then NoAlbums, then NoPrices, then NoPrice."""

    def test_no_word(self):
        odd = (None, 0, "", "Name", "name ", "names", "nam", "year", [], {}, ["name"], ("name",), deep(20, "name"))
        for thing in (*odd, {"name": "name"}, *NOTHINGS):
            for albums in (some(), (), None, "name"):
                for prices in (PRICES, None):
                    with self.assertRaises(NoWord, msg=repr(thing)[:200]):
                        sorted_by(thing, albums, prices)

    def test_no_albums(self):
        one = Album(ONE)
        odd = [None, 0, "", (), (one,) * 7, (one,) * 12, [one], [one, one], {}, {0: one}, one, ((one,),), (one, None)]
        odd += [(one, Album(BOOK)), (one, one, Album((("x", 1900, 2),))), (Album(BOOK), Album(BOOK[:2])), (ONE,), (0,)]
        for thing in (*odd, *NOTHINGS):
            for word in WORDS:
                for prices in (PRICES, None, ()):
                    with self.assertRaises(NoAlbums, msg=repr(thing)[:200]):
                        sorted_by(word, thing, prices)
        for many in range(1, 7):
            for word in WORDS:
                self.assertEqual(len(sorted_by(word, (one,) * many, ())), many)

    def test_no_prices_at_worth_alone(self):
        odd = (None, 0, "", [], {}, [PRICES[0]], PRICES[0], ((0, 2, 1900, 1),), (PRICES[0], PRICES[0]), PRICES * 9)
        for thing in (*odd, *NOTHINGS):
            for albums in (some(), some()[:1], (Album(BOOK),)):
                with self.assertRaises(NoPrices, msg=repr(thing)[:200]):
                    sorted_by("worth", albums, thing)
            for word in WORDS[:4]:
                self.assertEqual(len(sorted_by(word, some(), thing)), 4)
        with self.assertRaises(NoPrices):
            sorted_by("worth", some())

    def test_no_price(self):
        for back in (False, True):
            for many in (1, 2, 3, 4):
                with self.assertRaises(NoPrice):
                    sorted_by("worth", some()[:many], (), back)
            # One place alone, of the last album alone.
            with self.assertRaises(NoPrice):
                sorted_by("worth", some(), tuple(price for price in PRICES if price[:2] != (2, 2)), back)
            with self.assertRaises(NoPrice):
                sorted_by("worth", (Album(ONE, "", ((0, 0, 0),)),), (), back)
            self.assertEqual(len(sorted_by("worth", (Album(BOOK), Album(BOOK)), (), back)), 2)
        albums = some()
        before = [state(album) for album in albums]
        with self.assertRaises(NoPrice):
            sorted_by("worth", albums, ())
        self.assertEqual([state(album) for album in albums], before)


if __name__ == "__main__":
    unittest.main()
