import re
import unittest

from hingemount.desk import Desk
from hingemount.errors import HingeError, Missing, NoList, NoNumber, NoRow, NoSet, NoStamp, NothingDone
from tests.things import FORTY, NOTHINGS, deep, otherwise

NAME = "[a-z]{1,8}"
NUMBER = "(?:0|[1-9][0-9]{0,39})"
GRADE = "(?:whole|hinged)"
SET = f"[a-z]+ {NUMBER} {NUMBER}"
FORMS = (
    f"list {SET}(?:;{SET})*",
    f"(?:new|drop|show|whole|doubles) {NAME}",
    f"(?:put|take) {NAME} {NUMBER} {NUMBER} {GRADE} {NUMBER}",
    f"give {NAME} {NAME} {NUMBER} {NUMBER} {GRADE}",
    f"gaps {NAME} {NUMBER}",
    "undo|names|most",
)
ROW = re.compile("|".join(f"(?:{form})" for form in FORMS))

ROWS = (
    "list x 1900 2;y 1901 3",
    "new cleo",
    "drop cleo",
    "put anna 0 1 whole 12",
    "take anna 0 0 hinged 1",
    "give anna bert 0 0 whole",
    "undo",
    "names",
    "show anna",
    "gaps anna 0",
    "whole anna",
    "doubles anna",
    "most",
)


def told(*rows):
    """A desk that was told these rows."""
    desk = Desk()
    for row in rows:
        desk.say(row)
    return desk


def filled():
    """A desk at which each of ROWS, but dropping what isn't there, is done and told."""
    return told(
        "list x 1900 2;y 1900 1", "new anna", "new bert",
        "put anna 0 0 whole 5", "put anna 0 0 hinged 5", "put bert 0 1 hinged 2",
    )


def shown(desk):
    """All that a desk has."""
    names = desk.say("names")
    return [desk.say(f"show {name}") for name in names.split(" ")] if names != "none" else []


class Rows(unittest.TestCase):
    """Point 82: what is a row."""

    def bad(self, *rows):
        for row in rows:
            desk = filled()
            for now in (desk, Desk()):
                before = shown(now)
                with self.assertRaises(NoRow, msg=repr(row)[:200]):
                    now.say(row)
                self.assertEqual(shown(now), before)
            # Nothing that is refused is a deed.
            self.assertEqual(desk.say("undo"), "ok")
            self.assertEqual(desk.say("show bert"), "album bert / list x 1900 2;y 1900 1")

    def good(self, *rows):
        """These are rows, be they refused for something else or not."""
        for row in rows:
            for now in (filled(), Desk()):
                try:
                    self.assertIs(type(now.say(row)), str)
                except HingeError as refusal:
                    self.assertNotIsInstance(refusal, NoRow, repr(row)[:200])

    def told(self, row):
        if ROW.fullmatch(row):
            self.good(row)
        else:
            self.bad(row)

    def test_each_row(self):
        for row in ROWS:
            self.assertTrue(ROW.fullmatch(row), row)
            self.good(row)

    def test_a_sign_more_less_or_otherwise(self):
        for row in ROWS:
            self.told(row)
            for other in otherwise(row, " ;.01axwA\n"):
                self.told(other)

    def test_a_word_more_less_or_otherwise(self):
        others = ("", "0", "1", "anna", "bert", "whole", "hinged", "none", "x", "00", "A", "0.0", "list", "12")
        for row in ROWS:
            words = row.split(" ")
            for at in range(len(words) + 1):
                self.told(" ".join(words[:at] + words[at + 1:]))
                for other in others:
                    self.told(" ".join(words[:at] + [other] + words[at:]))
                    self.told(" ".join(words[:at] + [other] + words[at + 1:]))

    def test_blanks_more(self):
        for row in ROWS:
            self.bad(row + " ", " " + row, row + "\n", row + "\t", "\n" + row, row.replace(" ", "  ") + "  ")
            if " " in row:
                self.bad(row.replace(" ", "  "), row.replace(" ", "\t"), row.replace(" ", "\n"))
                self.bad(row.replace(" ", "  ", 1), row.replace(" ", ""))
        self.bad("", " ", "  ", "\n", "list x 1900 1; y 1900 1", "list x 1900 1 ;y 1900 1")

    def test_words_in_capitals(self):
        for row in ROWS:
            self.bad(row.upper(), row.capitalize())
        self.bad("new Anna", "new anna1", "new a-b", "new abcdefghi", "show abcdefghi", "put anna 0 0 Whole 1")
        self.bad("put anna 0 0 0 1", "put anna 0 0 1 1", "give anna bert 0 0 1", "put anna 0.0 whole 1")
        self.good("new abcdefgh", "new a", "new new", "new list", "new whole", "new none")

    def test_numbers(self):
        forty = str(FORTY)
        rows = ("put anna {} 0 whole 1", "put anna 0 {} whole 1", "put anna 0 0 whole {}", "take anna 0 0 whole {}",
                "give anna bert {} 0 whole", "give anna bert 0 {} whole", "gaps anna {}",
                "list x {} 1", "list x 1900 {}", "list x 1900 1;y {} 1", "list x 1900 1;y 1900 {}")
        for row in rows:
            self.good(*[row.format(figures) for figures in ("0", "1", "10", "9", "2100", forty, "1" + "0" * 39)])
            for figures in (
                forty + "0", "1" + forty, "1" * 41, "1" * 1000, "00", "01", "007", "0" + forty, "0" * 41, "-1", "+1",
                "1.0", "1_0", "", "one", "1e1", "0x1", "1,000", "anna", "True",
            ):
                self.bad(row.format(figures))

    def test_lists_be_they_such_or_not(self):
        for text in (
            "x 1839 1", "x 2101 1", "x 0 1", "x 1900 0", "x 1900 7", "abcdefghi 1900 1", "a" * 500 + " 1900 1",
            "x 1900 1;x 1900 2", "x 1901 1;x 1900 1", "y 1900 1;x 1900 1", f"x {FORTY} 1", f"x 1900 {FORTY}",
            "a 1 1;b 2 2;c 3 3;d 4 4;e 5 5", ";".join(f"x {year} 1" for year in range(1900, 1905)),
        ):
            with self.assertRaises(NoList, msg=text):
                Desk().say(f"list {text}")
        self.bad("list", "list ", "list x", "list x 1900", "list x 1900 1 1", "list 1900 x 1", "list X 1900 1")
        self.bad("list x 1900 1;", "list ;x 1900 1", "list x 1900 1;;y 1900 1", "list ;", "list x1 1900 1")
        self.bad("list x 1900 a", "list x a 1", "list  1900 1", "list x 1900 1,y 1900 1")
        self.good("list x 1900 1", ";".join(("list x 1900 6", "x 1901 6", "x 1902 6", "x 1903 6")))

    def test_whatever_kind(self):
        odd = (None, 0, 1, [], ["names"], ("names",), {}, {"names": 1}, deep(20, "names"), "x" * 2000, " " * 2000)
        self.bad(*odd, *[list(row.split(" ")) for row in ROWS[:3]], *NOTHINGS)
        self.bad("names;names", "names\nnames", "list " + "x 1900 1;" * 200, "new " + "a" * 1990)


class Order(unittest.TestCase):
    """Point 82: NoRow ahead of all else, then Missing, then what each row tells."""

    def refused(self, error, *rows):
        for row in rows:
            desk = filled()
            before = shown(desk)
            with self.assertRaises(error, msg=row):
                desk.say(row)
            self.assertEqual(shown(desk), before)

    def test_no_row_ahead_of_missing(self):
        self.refused(NoRow, "put c 9 9 whole 00", "take c 9 9 whole", "gaps c 00", "show c d", "give c c 9 9")
        self.refused(NoRow, "drop c ", "put c 9 9 whole 1" + "0" * 40, "give c c 9 9 new")

    def test_missing_ahead_of_all_else(self):
        self.refused(Missing, "drop c", "show c", "whole c", "doubles c", "gaps c 0", "gaps c 9", "put c 0 0 whole 1")
        self.refused(Missing, "put c 9 9 whole 0", "take c 0 0 whole 1", "take c 9 9 whole 0", "take c 0 0 whole 99")
        self.refused(Missing, "give c bert 9 9 whole", "give anna c 9 9 whole")
        self.refused(Missing, "give c c 0 0 whole", "give c d 0 0 whole")

    def test_stamps_numbers_and_sets(self):
        for word in ("put", "take"):
            for at, number in ((2, 0), (0, 2), (1, 1), (FORTY, 0), (0, FORTY)):
                self.refused(NoStamp, f"{word} anna {at} {number} whole 1", f"{word} anna {at} {number} hinged 0")
            self.refused(NoNumber, f"{word} anna 0 0 whole 0", f"{word} anna 1 0 hinged 0")
        self.refused(NoSet, "gaps anna 2", "gaps bert 4", f"gaps anna {FORTY}")
        with self.assertRaises(NothingDone):
            Desk().say("undo")

    def test_by_names(self):
        self.assertEqual(Desk().say(row="names"), "none")


if __name__ == "__main__":
    unittest.main()
