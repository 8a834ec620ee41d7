import random
import unittest

from hingemount.albums import Album
from hingemount.desk import Desk
from hingemount.errors import (
    HingeError, Missing, NoFriends, NoList, NoNumber, NoStamp, NothingDone, Same, Short, Twice,
)
from hingemount.papers import most_gaps
from hingemount.texts import album_read, album_text
from tests.test_desk_rows import filled, shown, told
from tests.things import FORTY


class Says(unittest.TestCase):
    """Rows and their answers, one behind the other."""

    def says(self, desk, *rows):
        for row, answer in rows:
            self.assertEqual(desk.say(row), answer, row)

    def refused(self, desk, error, *rows):
        before = shown(desk)
        for row in rows:
            with self.assertRaises(error, msg=row):
                desk.say(row)
            self.assertEqual(shown(desk), before)


class Deeds(Says):
    """Point 82: the deeds."""

    def test_at_first_no_albums_of_a_list_of_one_stamp(self):
        desk = Desk()
        self.says(desk, ("names", "none"), ("new a", "ok"), ("show a", "album a / list x 1900 1"), ("gaps a 0", "0"))
        self.refused(desk, NoStamp, "put a 0 1 whole 1", "put a 1 0 whole 1")

    def test_new_and_drop(self):
        desk = Desk()
        self.says(desk, ("new b", "ok"), ("new a", "ok"), ("names", "a b"))
        self.refused(desk, Twice, "new a", "new b")
        self.says(desk, ("put a 0 0 whole 1", "ok"), ("drop a", "ok"), ("names", "b"))
        self.refused(desk, Missing, "drop a", "show a")
        # One that comes anew has nothing of the one that was there.
        self.says(desk, ("new a", "ok"), ("show a", "album a / list x 1900 1"), ("drop b", "ok"), ("drop a", "ok"))
        self.says(desk, ("names", "none"))

    def test_put_and_take(self):
        desk = told("list x 1900 2;y 1900 1", "new a")
        self.says(desk, ("put a 0 1 hinged 3", "ok"), ("put a 1 0 whole 1", "ok"), ("put a 0 1 hinged 2", "ok"))
        self.says(desk, ("show a", "album a / list x 1900 2;y 1900 1 / 0.1 hinged 5 / 1.0 whole 1"))
        self.says(desk, ("take a 0 1 hinged 4", "ok"), ("take a 1 0 whole 1", "ok"))
        self.says(desk, ("show a", "album a / list x 1900 2;y 1900 1 / 0.1 hinged 1"))
        self.refused(desk, NoNumber, "put a 0 1 whole 0", "take a 0 1 hinged 0")

    def test_put_of_very_many(self):
        desk = told("new a", f"put a 0 0 whole {FORTY}", f"put a 0 0 whole {FORTY}", f"put a 0 0 hinged {FORTY}")
        self.says(desk, ("show a", f"album a / list x 1900 1 / 0.0 hinged {FORTY} / 0.0 whole {2 * FORTY}"))
        self.says(desk, ("doubles a", f"0.0.0*{FORTY} 0.0.1*{2 * FORTY - 1}"))
        self.says(desk, (f"take a 0 0 whole {FORTY}", "ok"), (f"take a 0 0 hinged {FORTY}", "ok"))
        self.says(desk, ("doubles a", f"0.0.1*{FORTY - 1}"))

    def test_take_of_more_than_there_are(self):
        desk = filled()
        before = shown(desk)
        for row, by in (
            ("take anna 0 0 whole 6", 1), ("take anna 0 0 whole 99", 94), ("take anna 0 1 whole 1", 1),
            ("take bert 0 0 hinged 7", 7), (f"take anna 0 0 hinged {FORTY}", FORTY - 5),
        ):
            with self.assertRaises(Short) as caught:
                desk.say(row)
            self.assertEqual(caught.exception.by, by)
            self.assertEqual(shown(desk), before)
        self.says(desk, ("take anna 0 0 whole 5", "ok"))

    def test_give(self):
        desk = filled()
        self.says(desk, ("give anna bert 0 0 whole", "ok"), ("give bert anna 0 1 hinged", "ok"))
        head = "list x 1900 2;y 1900 1"
        self.says(desk, ("show anna", f"album anna / {head} / 0.0 hinged 5 / 0.0 whole 4 / 0.1 hinged 1"))
        self.says(desk, ("show bert", f"album bert / {head} / 0.0 whole 1 / 0.1 hinged 1"))
        # What is given needs to be no double, and fill no gap.
        self.says(desk, ("give bert anna 0 0 whole", "ok"), ("give bert anna 0 1 hinged", "ok"))
        self.says(desk, ("show bert", f"album bert / {head}"))

    def test_give_refused_in_its_order(self):
        desk = filled()
        self.refused(desk, Missing, "give c anna 9 9 whole", "give anna c 9 9 whole", "give c c 9 9 whole")
        self.refused(desk, Same, "give anna anna 0 0 whole", "give anna anna 9 9 whole", "give bert bert 1 0 hinged")
        self.refused(desk, NoStamp, "give anna bert 0 2 whole", "give bert anna 2 0 hinged")
        self.refused(desk, NoStamp, f"give anna bert 0 {FORTY} whole")
        self.refused(desk, Short, "give anna bert 0 1 whole", "give anna bert 1 0 hinged", "give bert anna 0 1 whole")
        with self.assertRaises(Short) as caught:
            desk.say("give bert anna 0 0 whole")
        self.assertEqual(caught.exception.by, 1)

    def test_list_begins_anew(self):
        desk = filled()
        self.says(desk, ("list a 1840 6;b 2100 1", "ok"), ("names", "none"), ("new anna", "ok"))
        self.says(desk, ("show anna", "album anna / list a 1840 6;b 2100 1"), ("put anna 0 5 whole 1", "ok"))
        # The same list, too, has all begin anew.
        self.says(desk, ("list a 1840 6;b 2100 1", "ok"), ("names", "none"))
        self.refused(desk, Missing, "show anna")

    def test_two_desks(self):
        one, other = filled(), filled()
        one.say("put anna 0 1 whole 1")
        one.say("drop bert")
        self.assertEqual(shown(other), shown(filled()))
        other.say("list x 1900 1")
        self.assertEqual(one.say("names"), "anna")
        self.says(one, ("undo", "ok"), ("undo", "ok"))
        self.assertEqual(shown(one), shown(filled()))
        self.assertEqual(other.say("names"), "none")
        self.assertEqual(Desk().say("names"), "none")


class Undone(Says):
    """Point 82: undo."""

    def test_nothing_done(self):
        self.refused(Desk(), NothingDone, "undo", "undo")
        self.refused(told("list x 1900 2"), NothingDone, "undo")
        desk = told("new a")
        self.says(desk, ("undo", "ok"), ("names", "none"))
        self.refused(desk, NothingDone, "undo")

    def test_each_deed(self):
        deeds = (
            "new c", "drop anna", "put anna 0 0 whole 3", "put bert 1 0 hinged 1", f"put anna 0 1 whole {FORTY}",
            "take anna 0 0 whole 5", "take anna 0 0 hinged 1", "give anna bert 0 0 hinged", "give bert anna 0 1 hinged",
        )
        for deed in deeds:
            desk = filled()
            before = shown(desk)
            self.says(desk, (deed, "ok"))
            self.assertNotEqual(shown(desk), before)
            self.says(desk, ("undo", "ok"))
            self.assertEqual(shown(desk), before)

    def test_several_one_behind_the_other(self):
        desk = Desk()
        desk.say("list x 1900 2")
        states = []
        deeds = (
            "new a", "put a 0 0 whole 2", "new b", "put b 0 1 hinged 4", "give a b 0 0 whole", "take b 0 1 hinged 4",
            "drop a", "new a", "put a 0 1 whole 1", "drop b", "give a a 0 0 whole", "new b",
        )
        for deed in deeds:
            states.append(shown(desk))
            if deed.startswith("give a a"):
                self.refused(desk, Same, deed)
                states.pop()
            else:
                self.says(desk, (deed, "ok"))
        while states:
            self.says(desk, ("undo", "ok"))
            self.assertEqual(shown(desk), states.pop())
        self.refused(desk, NothingDone, "undo")

    def test_a_deed_behind_an_undo(self):
        desk = told("new a", "put a 0 0 whole 1", "undo", "put a 0 0 hinged 1", "put a 0 0 hinged 1", "undo")
        self.says(desk, ("show a", "album a / list x 1900 1 / 0.0 hinged 1"), ("undo", "ok"))
        self.says(desk, ("show a", "album a / list x 1900 1"), ("undo", "ok"), ("names", "none"))
        self.refused(desk, NothingDone, "undo")

    def test_looks_and_refused_rows_are_no_deeds(self):
        rows = (
            "names", "show anna", "gaps anna 0", "whole anna", "doubles anna", "most", "new anna", "drop c", "nothing",
            "put anna 0 0 whole 0", "put anna 9 0 whole 1", "take anna 0 0 whole 99", "give anna anna 0 0 whole",
            "give bert anna 0 0 whole", "list x 1900 7", "list", "show c", "gaps anna 9",
        )
        desk = filled()
        desk.say("put bert 1 0 whole 1")
        for row in rows:
            try:
                desk.say(row)
            except HingeError:
                pass
        self.says(desk, ("undo", "ok"))
        self.assertEqual(shown(desk), shown(filled()))

    def test_a_list_that_is_none_leaves_all(self):
        desk = filled()
        self.refused(desk, NoList, "list x 1900 7", "list y 1900 1;x 1900 1", "list a 0 0")
        self.says(desk, ("undo", "ok"), ("show bert", "album bert / list x 1900 2;y 1900 1"), ("undo", "ok"))
        self.says(desk, ("show anna", "album anna / list x 1900 2;y 1900 1 / 0.0 whole 5"))
        # The list stays, too.
        self.says(desk, ("put anna 1 0 whole 1", "ok"), ("new c", "ok"), ("show c", "album c / list x 1900 2;y 1900 1"))

    def test_nothing_to_undo_behind_a_list(self):
        desk = filled()
        self.says(desk, ("list x 1900 2;y 1900 1", "ok"), ("names", "none"))
        self.refused(desk, NothingDone, "undo")
        self.says(desk, ("new a", "ok"), ("undo", "ok"), ("names", "none"))
        self.refused(desk, NothingDone, "undo")

    def test_very_many_deeds(self):
        desk = told("new a")
        for _ in range(2000):
            desk.say("put a 0 0 whole 7")
        self.says(desk, ("doubles a", "0.0.1*13999"))
        for _ in range(2000):
            desk.say("undo")
        self.says(desk, ("show a", "album a / list x 1900 1"))

    def test_by_chance(self):
        chance = random.Random(82)
        for _ in range(30):
            desk, model, states = told("list x 1900 2;y 1900 1"), {}, []
            for _ in range(150):
                row = row_by_chance(chance)
                before = {name: dict(counts) for name, counts in model.items()}
                self.tried(desk, row, model, states)
                if not row.startswith("undo") and model != before:
                    states.append(before)
                wanted = [album_text(album_of(name, model[name])).replace("\n", " / ") for name in sorted(model)]
                self.assertEqual(shown(desk), wanted, row)

    def tried(self, desk, row, model, states):
        """The row is done in the model, a dict of dicts of counts, just where the desk does it."""
        error = refusal_of(row, model, states)
        if error is not None:
            with self.assertRaises(error, msg=row):
                desk.say(row)
            return
        self.assertEqual(desk.say(row), "ok")
        word, *parts = row.split(" ")
        if word == "undo":
            model.clear()
            model.update(states.pop())
        elif word == "new":
            model[parts[0]] = {}
        elif word == "drop":
            del model[parts[0]]
        elif word == "give":
            move(model[parts[0]], tuple(parts[2:]), -1)
            move(model[parts[1]], tuple(parts[2:]), 1)
        else:
            move(model[parts[0]], tuple(parts[1:4]), int(parts[4]) if word == "put" else -int(parts[4]))


def row_by_chance(chance):
    stamp = f"{chance.choice('0001')} {chance.choice('01')} {chance.choice(('whole', 'hinged'))}"
    name, other = chance.choice("abc"), chance.choice("abc")
    rows = [f"new {name}", f"drop {name}"] + ["undo"] * 2 + [f"give {name} {other} {stamp}"] * 2
    rows += [f"put {name} {stamp} {chance.randint(0, 3)}"] * 4 + [f"take {name} {stamp} {chance.randint(0, 3)}"] * 2
    return chance.choice(rows)


def refusal_of(row, model, states):
    word, *parts = row.split(" ")
    if word == "undo":
        return None if states else NothingDone
    if word == "new":
        return Twice if parts[0] in model else None
    stamp = tuple(parts[-4:-1]) if word in ("put", "take") else tuple(parts[-3:])
    if any(name not in model for name in (parts[:2] if word == "give" else parts[:1])):
        return Missing
    if word == "give" and parts[0] == parts[1]:
        return Same
    if word == "drop":
        return None
    if stamp[:2] == ("1", "1"):
        return NoStamp
    many = 1 if word == "give" else int(parts[-1])
    if many == 0:
        return NoNumber
    return Short if word != "put" and model[parts[0]].get(stamp, 0) < many else None


def move(counts, stamp, many):
    counts[stamp] = counts.get(stamp, 0) + many
    if not counts[stamp]:
        del counts[stamp]


def album_of(name, counts):
    stamps = [((int(at), int(number), int(grade == "whole")), many) for (at, number, grade), many in counts.items()]
    return Album((("x", 1900, 2), ("y", 1900, 1)), name, tuple(stamp for stamp, many in stamps for _ in range(many)))


class Looks(Says):
    """Point 82: what is told of the albums."""

    def test_names(self):
        desk = Desk()
        self.says(desk, ("names", "none"), ("new b", "ok"), ("names", "b"), ("new ab", "ok"), ("new a", "ok"))
        self.says(desk, ("new ba", "ok"), ("new zzzzzzzz", "ok"), ("names", "a ab b ba zzzzzzzz"))

    def test_show_is_the_text(self):
        desk = told("list x 1900 2;y 1900 1", "new none", "put none 1 0 hinged 12", "put none 0 1 whole 1")
        self.says(desk, ("show none", "album none / list x 1900 2;y 1900 1 / 0.1 whole 1 / 1.0 hinged 12"))
        album = album_read(desk.say("show none").replace(" / ", "\n"))
        self.assertEqual(album.all_of(), [((0, 1, 1), 1), ((1, 0, 0), 12)])
        self.assertEqual(album.called(), "none")

    def test_gaps(self):
        desk = told("list x 1900 6;y 1900 1", "new a", "new b")
        self.says(desk, ("gaps a 0", "0 1 2 3 4 5"), ("gaps a 1", "0"), ("put a 0 2 hinged 1", "ok"))
        self.says(desk, ("gaps a 0", "0 1 3 4 5"), ("gaps b 0", "0 1 2 3 4 5"), ("put a 1 0 whole 2", "ok"))
        self.says(desk, ("gaps a 1", "none"))
        for number in (0, 1, 3, 4):
            desk.say(f"put a 0 {number} whole 1")
        self.says(desk, ("gaps a 0", "5"))

    def test_whole(self):
        desk = told("list w 1900 1;x 1900 2;y 1900 1;z 1900 1", "new a")
        self.says(desk, ("whole a", "none"), ("put a 1 0 whole 1", "ok"), ("whole a", "none"))
        self.says(desk, ("put a 1 1 hinged 1", "ok"), ("whole a", "1"))
        self.says(desk, ("put a 3 0 hinged 1", "ok"), ("whole a", "1 3"))
        self.says(desk, ("put a 0 0 whole 1", "ok"), ("put a 2 0 whole 1", "ok"), ("whole a", "0 1 2 3"))

    def test_doubles(self):
        desk = told("list x 1900 2;y 1900 1", "new a", "put a 0 0 hinged 1")
        self.says(desk, ("doubles a", "none"), ("put a 0 0 whole 1", "ok"), ("doubles a", "0.0.0*1"))
        self.says(desk, ("put a 0 0 whole 12", "ok"), ("doubles a", "0.0.0*1 0.0.1*12"))
        self.says(desk, ("put a 1 0 hinged 3", "ok"), ("doubles a", "0.0.0*1 0.0.1*12 1.0.0*2"))

    def test_most(self):
        desk = told("list x 1900 3", "new cleo")
        self.refused(desk, NoFriends, "most")
        desk.say("new anna")
        self.says(desk, ("most", "0"), ("put cleo 0 0 whole 2", "ok"), ("most", "0"), ("put anna 0 2 hinged 3", "ok"))
        self.says(desk, ("most", "2 anna>cleo:0.2.0 cleo>anna:0.0.1"))
        # Told alone, not done.
        self.says(desk, ("most", "2 anna>cleo:0.2.0 cleo>anna:0.0.1"))
        self.says(desk, ("new bert", "ok"), ("put bert 0 1 whole 2", "ok"))
        self.assertEqual(desk.say("most").split(" ")[0], "4")
        self.says(desk, ("new dora", "ok"))
        self.assertEqual(desk.say("most").split(" ")[0], "4")
        self.says(desk, ("new emma", "ok"))
        self.refused(desk, NoFriends, "most")
        self.refused(Desk(), NoFriends, "most")

    def test_most_is_that_of_the_albums_by_their_names(self):
        chance = random.Random(83)
        names = ("a", "ab", "b", "zoe")
        for _ in range(40):
            desk = told("list x 1900 3;y 1900 2")
            for name in chance.sample(names, chance.randint(2, 4)):
                desk.say(f"new {name}")
                for at, number in ((0, 0), (0, 1), (0, 2), (1, 0), (1, 1)):
                    for grade in ("whole", "hinged"):
                        many = chance.choice((0, 0, 0, 1, 2))
                        if many:
                            desk.say(f"put {name} {at} {number} {grade} {many}")
            friends = tuple(album_read(text.replace(" / ", "\n")) for text in shown(desk))
            there = [friend.called() for friend in friends]
            _, many, exchange, _ = most_gaps(friends)
            gives = []
            for giver, taker, (at, number, grade) in exchange:
                gives.append(f"{there[giver]}>{there[taker]}:{at}.{number}.{grade}")
            self.assertEqual(desk.say("most"), " ".join([str(many), *gives]))
            self.assertEqual(gives, sorted(gives))

    def test_the_same_asked_again(self):
        desk = filled()
        rows = ("names", "show anna", "gaps anna 0", "whole bert", "doubles bert", "most")
        answers = [desk.say(row) for row in rows]
        self.assertEqual(answers, ["anna bert", "album anna / list x 1900 2;y 1900 1 / 0.0 hinged 5 / 0.0 whole 5", "1",
                                   "none", "0.1.0*1", "2 anna>bert:0.0.0 bert>anna:0.1.0"])
        self.assertEqual([desk.say(row) for row in rows], answers)


if __name__ == "__main__":
    unittest.main()
