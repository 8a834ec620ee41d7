import random
import re
import unittest

from hingemount.albums import Album, joined
from hingemount.errors import NoText
from hingemount.lists import is_list
from hingemount.texts import album_read, album_text, list_text
from tests.friends import WIDE, friends_by_chance
from tests.things import BOOK, FORTY, NOTHINGS, ONE, deep, otherwise, state

TEXT = """album mine
list aland 1900 2;aland 1901 1;bland 1880 3
0.0 hinged 1
0.0 whole 2
1.0 whole 13
2.2 hinged 1"""
SMALL = "album a\nlist x 1900 1;y 1901 2\n0.0 hinged 2\n1.1 whole 10"

NUMBER = "(0|[1-9][0-9]*)"
FIRST_ROW = re.compile("album( ([a-z]{1,8}))?")
LIST_ROW = re.compile("list (.*)")
SET = re.compile(f"([a-z]{{1,8}}) {NUMBER} {NUMBER}")
STAMP_ROW = re.compile(rf"{NUMBER}\.{NUMBER} (hinged|whole) ([1-9][0-9]*)")


def is_text(text):
    """Whether a text is one of an album, by point 81 read row by row with patterns."""
    rows = text.split("\n")
    if len(rows) < 2 or not FIRST_ROW.fullmatch(rows[0]) or not LIST_ROW.fullmatch(rows[1]):
        return False
    sets = [SET.fullmatch(part) for part in rows[1][5:].split(";")]
    if not all(sets):
        return False
    book = tuple((part[1], int(part[2]), int(part[3])) for part in sets)
    found = [STAMP_ROW.fullmatch(row) for row in rows[2:]]
    if not is_list(book) or not all(found):
        return False
    stamps = [(int(row[1]), int(row[2]), row[3] == "whole") for row in found]
    inside = all(at < len(book) and number < book[at][2] for at, number, _ in stamps)
    return inside and stamps == sorted(set(stamps))


class Written(unittest.TestCase):
    """Point 81: how lists and albums are written."""

    def test_lists(self):
        self.assertEqual(list_text(ONE), "x 1900 1")
        self.assertEqual(list_text(BOOK), "aland 1900 2;aland 1901 1;bland 1880 3")
        self.assertEqual(list_text(WIDE), "x 1900 6;x 1901 6;x 1902 6;x 1903 6")
        self.assertEqual(list_text((("a", 1840, 6), ("abcdefgh", 2100, 1))), "a 1840 6;abcdefgh 2100 1")
        self.assertEqual(list_text(book=ONE), "x 1900 1")

    def test_albums(self):
        stamps = ((2, 2, 0), (0, 0, 1), (0, 0, 0), *[(1, 0, 1)] * 13, (0, 0, 1))
        self.assertEqual(album_text(Album(BOOK, "mine", stamps)), TEXT)
        self.assertEqual(album_text(Album(BOOK, "abcdefgh")), f"album abcdefgh\nlist {list_text(BOOK)}")
        self.assertEqual(album_text(Album(ONE)), "album\nlist x 1900 1")
        self.assertEqual(album_text(Album(ONE, "", ((0, 0, 0),))), "album\nlist x 1900 1\n0.0 hinged 1")
        self.assertEqual(album_text(album=Album(ONE)), "album\nlist x 1900 1")

    def test_each_stamp_at_its_place(self):
        for at in range(4):
            for number in range(6):
                for grade, word in ((0, "hinged"), (1, "whole")):
                    text = album_text(Album(WIDE, "", ((at, number, grade),) * 2))
                    self.assertEqual(text.split("\n")[2:], [f"{at}.{number} {word} 2"])

    def test_very_many(self):
        album = Album(ONE)
        album.put((0, 0, 1), FORTY)
        album.put((0, 0, 1))
        self.assertEqual(album_text(album), f"album\nlist x 1900 1\n0.0 whole 1{'0' * 40}")

    def test_str_is_the_text(self):
        for album in (Album(ONE), Album(BOOK, "mine", ((2, 2, 0), (0, 0, 1)))):
            self.assertEqual(str(album), album_text(album))


class Read(unittest.TestCase):
    """Points 81 and 6: what is written is read to the same."""

    def same(self, album):
        text = album_text(album)
        told = album_read(text)
        self.assertIs(type(told), Album)
        self.assertEqual(state(told), state(album))
        self.assertEqual(told, album)
        self.assertEqual(album_text(told), text)

    def test_names_and_none(self):
        for name in ("", "a", "z", "mine", "album", "list", "whole", "abcdefgh"):
            self.same(Album(ONE, name))
            self.same(Album(BOOK, name, ((2, 2, 0), (0, 0, 1), (0, 0, 1))))

    def test_lists(self):
        for book in (ONE, BOOK, WIDE, (("album", 1840, 6), ("hinged", 2100, 1)), (("abcdefgh", 2100, 6),)):
            self.same(Album(book))
            self.same(Album(book, "a", ((0, 0, 0),)))

    def test_all_stamps(self):
        chance = random.Random(81)
        for _ in range(60):
            self.same(friends_by_chance(chance, WIDE, 1, chance.random(), 12)[0])

    def test_counts_of_many_figures(self):
        for figures in (1, 2, 9, 10, 19, 20, 39, 40):
            for count in (10 ** (figures - 1), 10 ** figures - 1, int("1234567890" * 4) % 10 ** figures or 1):
                album = Album(BOOK)
                album.put((0, 0, 0), count)
                self.same(album)

    def test_counts_beyond_forty_figures(self):
        album = Album(ONE, "many")
        album.put((0, 0, 0), FORTY)
        album.put((0, 0, 1), int("1" + "0" * 39))
        # Up to more figures than Python reads and writes of an int by itself.
        for turn in range(16000):
            album = joined(album, album)
            if turn < 250 or turn % 1600 == 0:
                self.same(album)
        self.assertGreater(len(album_text(album)), 9600)
        self.same(album)

    def test_counts_of_very_many_figures_that_are_noughts(self):
        for figures in (59, 60, 61, 119, 120, 121, 4299, 4300, 4301, 6000):
            for end in ("", "7"):
                text = f"album\nlist x 1900 1\n0.0 whole 1{'0' * (figures - 1 - len(end))}{end}"
                album = album_read(text)
                count = 10 ** (figures - 1) + 7 if end else 10 ** (figures - 1)
                self.assertEqual(album.count_of((0, 0, 1)), count)
                self.assertEqual(album_text(album), text)

    def test_what_is_told_is_new(self):
        album = album_read(TEXT)
        album.put((0, 0, 0))
        self.assertEqual(album_text(album_read(TEXT)), TEXT)
        self.assertEqual(album_text(album_read(text=TEXT)), TEXT)


class Refused(unittest.TestCase):
    """Point 81: all else is refused with NoText."""

    def bad(self, *things):
        for thing in things:
            with self.assertRaises(NoText, msg=repr(thing)[:200]):
                album_read(thing)

    def told(self, text):
        """The album is told just where the pattern's reading says so, and then it writes this text."""
        if is_text(text):
            self.assertEqual(album_text(album_read(text)), text)
        else:
            self.bad(text)

    def test_a_sign_more_less_or_otherwise(self):
        for text in (TEXT, SMALL, "album\nlist x 1900 1", album_text(Album(WIDE, "z", ((3, 5, 1),)))):
            self.told(text)
            for other in otherwise(text, " \n;.0129abxwhAZ_+-\t\r"):
                self.told(other)

    def test_two_signs_otherwise(self):
        chance = random.Random(82)
        good = 0
        for _ in range(20000):
            text = SMALL
            for _ in range(2):
                at = chance.randrange(len(text))
                text = text[:at] + chance.choice("0129 .;\nalwx") + text[at + chance.randint(0, 1):]
            self.told(text)
            good += is_text(text)
        self.assertGreater(good, 100)

    def test_rows_twice_gone_and_exchanged(self):
        for text in (TEXT, SMALL):
            rows = text.split("\n")
            for at in range(len(rows)):
                self.bad("\n".join(rows[:at + 1] + rows[at:]))
                gone = "\n".join(rows[:at] + rows[at + 1:])
                self.told(gone)
                self.assertIs(is_text(gone), at > 1)
                for to in range(at):
                    self.bad("\n".join(rows[:to] + [rows[at]] + rows[to + 1:at] + [rows[to]] + rows[at + 1:]))
        self.bad("", "\n", "\n\n", "album", "album\n", "album mine", "list x 1900 1", "0.0 hinged 1", "mine")

    def test_blanks_and_line_ends_more(self):
        for text in (TEXT, SMALL, "album\nlist x 1900 1"):
            self.bad(text + "\n", "\n" + text, text + " ", " " + text, text + "\n\n", text.replace("\n", "\r\n"))
            self.bad(text.replace("\n", " \n"), text.replace("\n", "\n "), text.replace("\n", "\n\n"))
            self.bad(text.replace(" ", "  "), text.replace(" ", "\t"))
            self.bad(text.replace("\n", " / "), text.replace("\n", " "))
        self.bad("album \nlist x 1900 1", "album  a\nlist x 1900 1", "album a \nlist x 1900 1")
        self.bad("album\nlist x 1900 1; y 1900 1", "album\nlist x 1900 1 ;y 1900 1", "album\nlist x 1900 1;")

    def test_counts(self):
        for figures in ("0", "00", "01", "007", "", "-1", "+1", "1.0", "1_0", "1e1", "1 1", "one", "0x1", "1,000"):
            self.bad(f"album\nlist x 1900 1\n0.0 hinged {figures}")
        self.bad("album\nlist x 1900 1\n0.0 hinged " + "0" * 1000, "album\nlist x 1900 1\n0.0 hinged 0" + "1" * 1000)
        self.bad("album\nlist x 1900 1\n0.0 hinged")

    def test_noughts_ahead(self):
        self.bad("album\nlist x 01900 1", "album\nlist x 1900 01", "album\nlist x 1900 1\n00.0 hinged 1")
        self.bad("album\nlist x 1900 1\n0.00 hinged 1", "album\nlist x 1900 2\n0.01 hinged 1")

    def test_a_list_that_is_none(self):
        for text in (
            "", "x", "x 1900", "x 1900 1 1", "1900 x 1", "x 1839 1", "x 2101 1", "x 1900 0", "x 1900 7", "X 1900 1",
            "abcdefghi 1900 1", "x 1900 1;x 1900 1", "x 1900 1;x 1900 2", "x 1901 1;x 1900 1", "y 1900 1;x 1900 1",
            "a 1900 1;b 1900 1;c 1900 1;d 1900 1;e 1900 1", ";x 1900 1", "x 1900 1;", "x 1900 1;;y 1900 1", "x,1900,1",
            "x 1900 " + "1" * 50, "x " + "1" * 1900 + " 1", "a" * 1900 + " 1900 1",
        ):
            self.bad(f"album\nlist {text}", f"album a\nlist {text}\n0.0 hinged 1")
        self.bad("album\nlist", "album\nlists x 1900 1", "album\nx 1900 1", "list x 1900 1\nalbum")

    def test_a_name_that_is_none(self):
        for name in ("A", "aB", "a1", "abcdefghi", "a b", "a_", "1", " a", "a\n", "-", "a" * 1900):
            self.bad(f"album {name}\nlist x 1900 1")
        self.bad("Album a\nlist x 1900 1", "albums\nlist x 1900 1", "a\nlist x 1900 1", "albuma\nlist x 1900 1")

    def test_a_stamp_out_of_order_or_not_of_the_list(self):
        head = "album\nlist x 1900 2;y 1900 1\n"
        good = ["0.0 hinged 1", "0.0 whole 1", "0.1 hinged 1", "1.0 whole 1"]
        self.assertEqual(album_text(album_read(head + "\n".join(good))), head + "\n".join(good))
        for at in range(3):
            self.bad(head + "\n".join(good[:at] + [good[at + 1], good[at]] + good[at + 2:]))
        self.bad(head + "\n".join(good[::-1]))
        for place in ("0.2", "1.1", "2.0", "10.0", "0.10", "-1.0", "0.-1", "0", "0.0.0", ".0", "0.", ".", "", "0,0"):
            self.bad(f"{head}{place} hinged 1", head + "\n".join([*good, f"{place} whole 1"]))
        for grade in ("", "0", "1", "Hinged", "Whole", "hinge", "wholes", "true", "hinged whole", "False"):
            self.bad(f"{head}0.0 {grade} 1")

    def test_one_stamp_in_two_rows(self):
        self.bad("album\nlist x 1900 1\n0.0 hinged 1\n0.0 hinged 1", "album\nlist x 1900 1\n0.0 hinged 1\n0.0 hinged 2")

    def test_whatever_kind(self):
        self.bad(None, 0, 1, "", TEXT.split("\n"), tuple(TEXT.split("\n")), (TEXT,), {TEXT: TEXT}, deep(20, TEXT))
        self.bad(Album(ONE), ONE, *NOTHINGS)
        self.bad("\n" * 2000, " " * 2000, "album\nlist " + ";" * 1900, "album\nlist x 1900 1" + "\n0.0 hinged 1" * 150)
        self.bad("".join(chr(at) for at in range(128) if chr(at) != "%"))


if __name__ == "__main__":
    unittest.main()
