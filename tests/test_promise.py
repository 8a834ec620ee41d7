import copy
import random
import unittest

from hingemount.albums import Album, joined, parted, parting
from hingemount.bundles import fewest_for, makes_whole
from hingemount.deals import chain_of, fallen, is_chain, owners_behind, owners_left
from hingemount.desk import Desk
from hingemount.errors import HingeError, NoExchange, NoPaper, NoPrices, NoRow, NoStamps, NoText, NoThing, NoWord, Short
from hingemount.exchanges import exchanged, gains_by, is_exchange, rings_of
from hingemount.lists import all_stamps, is_list, is_stamp, places_many
from hingemount.papers import is_paper, most_gaps, shown_by
from hingemount.sorting import sorted_by
from hingemount.texts import album_read, album_text, list_text
from hingemount.worths import worth_by, worth_of
from tests.friends import WIDE, friends_by_chance, most_by_trying
from tests.things import FORTY, NOTHINGS, ONE, state

BOOK = (("a", 1900, 3), ("b", 1900, 2))
PRICES = tuple((at, number, 1900, 3 * number + at) for at, part in enumerate(BOOK) for number in range(part[2]))
OWNERS = (0, 1, 2)
DEALS = (((0, 0, 1), (1, 1, 0)), ((2, 2, 3),), ((1, 0, 2),))
OFFERS = (((0, 1), 2), ((0,), 1), ((1, 2), 1))


def albums_by_chance(seed, many):
    chance = random.Random(seed)
    return [friends_by_chance(chance, BOOK, 1, chance.random(), 4)[0] for _ in range(many)]


def swappers():
    one = Album(BOOK, "one", ((0, 0, 1), (0, 0, 1), (1, 0, 0)))
    other = Album(BOOK, "other", ((0, 1, 0), (0, 1, 0), (0, 1, 1)))
    return one, other


def all_told():
    """Something of each kind that the program tells."""
    friends = swappers()
    exchange, paper = most_gaps(friends)[2:]
    return [
        all_stamps(BOOK), places_many(BOOK), friends[0], friends[0].all_of(), friends[0].doubles(), friends[0].gaps(0),
        friends[0].whole_sets(), repr(friends[0]), str(friends[0]), parted(friends[0], (0,)), parting(*friends),
        worth_by(friends[0], PRICES), owners_behind(OWNERS, DEALS, 2), fallen(OWNERS, DEALS, 0),
        owners_left(OWNERS, DEALS, 0), chain_of(OWNERS, DEALS, 0, 2), chain_of(OWNERS, DEALS, 0, 1),
        fewest_for(friends[0], 0, (((1, 2), 1),)), most_gaps(friends), exchange, paper, *paper,
        exchanged(friends, exchange), rings_of(friends, exchange), gains_by(friends, exchange, PRICES),
        shown_by(friends, paper), sorted_by("name", friends), list_text(BOOK), album_text(friends[1]),
        album_read(album_text(friends[1])), Desk().say("names"),
    ]


class Promise(unittest.TestCase):
    """Point 6, over the whole program."""

    def test_gaps_and_doubles_are_told_set_by_set(self):
        for album in albums_by_chance(1, 40):
            there = {stamp[:2] for stamp, _ in album.all_of()}
            for at, part in enumerate(BOOK):
                self.assertEqual(album.gaps(at), [number for number in range(part[2]) if (at, number) not in there])
            kept = sum(many for _, many in album.all_of()) - sum(many for _, many in album.doubles())
            self.assertEqual(kept, len(there))

    def test_joined_and_parted_nothing_is_lost(self):
        albums = albums_by_chance(2, 40)
        for one, other in zip(albums, albums[1:]):
            both = joined(one, other)
            for stamp in all_stamps(BOOK):
                self.assertEqual(both.count_of(stamp), one.count_of(stamp) + other.count_of(stamp))
            for places in ((), (0,), (1,), (0, 1)):
                inside, outside = parted(both, places)
                self.assertEqual(joined(inside, outside), both)
                self.assertEqual([part[0] for part in inside.all_of() if part[0][0] not in places], [])
                self.assertEqual([part[0] for part in outside.all_of() if part[0][0] in places], [])

    def test_exchanged_nothing_is_lost_and_none_fills_more_gaps(self):
        chance = random.Random(3)
        for _ in range(60):
            friends = friends_by_chance(chance, BOOK[1:] + (("c", 1900, 1),), chance.randint(2, 3), 0.5, 2)
            _, many, exchange, paper = most_gaps(friends)
            self.assertEqual(many, most_by_trying(friends))
            self.assertEqual(shown_by(friends, paper), many)
            ahead = joined(Album(friends[0].book()), friends[0])
            behind = Album(friends[0].book())
            for friend in friends[1:]:
                ahead = joined(ahead, friend)
            for friend in exchanged(friends, exchange):
                behind = joined(behind, friend)
            self.assertEqual(ahead, behind)
            self.assertEqual(sum(len(ring) for ring in rings_of(friends, exchange)), many)

    def test_a_false_stamp_takes_along_just_what_leaned_on_it(self):
        for stamp in range(3):
            down = fallen(OWNERS, DEALS, stamp)
            for place in range(3):
                chain = chain_of(OWNERS, DEALS, stamp, place)
                self.assertIs(chain is not None, place in down)
                self.assertIs(is_chain(OWNERS, DEALS, stamp, place, chain), place in down)

    def test_two_albums_are_alike_just_where_each_place_and_grade_is(self):
        albums = albums_by_chance(4, 30)
        for one in albums:
            for other in albums:
                self.assertIs(one == other, parting(one, other) == [])
                self.assertIs(one == other, album_text(one) == album_text(other))

    def test_what_is_written_is_read_to_the_same(self):
        chance = random.Random(5)
        for many in (1, 2, 3, 4):
            for _ in range(20):
                album = Album(WIDE[:many], chance.choice(("", "a", "abcdefgh")))
                for _ in range(chance.randint(0, 20)):
                    album.put(chance.choice(all_stamps(WIDE[:many])), chance.randint(1, 10 ** chance.randint(0, 40)))
                self.assertEqual(state(album_read(album_text(album))), state(album))

    def test_a_desk_tells_what_the_albums_tell(self):
        for album in albums_by_chance(7, 20):
            desk = Desk()
            desk.say(f"list {list_text(BOOK)}")
            desk.say("new a")
            for (at, number, grade), many in album.all_of():
                desk.say(f"put a {at} {number} {('hinged', 'whole')[grade]} {many}")
            self.assertEqual(album_read(desk.say("show a").replace(" / ", "\n")), album)
            for at in (0, 1):
                told = " ".join(str(number) for number in album.gaps(at)) or "none"
                self.assertEqual(desk.say(f"gaps a {at}"), told)
            self.assertEqual(desk.say("whole a"), " ".join(str(at) for at in album.whole_sets()) or "none")


class HandedInAgain(unittest.TestCase):
    """Point 3: what the program told may be handed in again, whatever its figures and parts."""

    def test_in_the_place_of_things_of_whatever_kind(self):
        friends = swappers()
        before = [state(friend) for friend in friends]
        exchange, paper = most_gaps(friends)[2:]
        for thing in all_told():
            self.assertIs(is_list(thing), False)
            self.assertIs(is_stamp(BOOK, thing), False)
            self.assertIs(is_exchange(friends, thing), thing in (exchange, ()))
            self.assertIs(is_paper(friends, thing), thing == paper)
            self.assertIs(is_chain(OWNERS, DEALS, 0, 2, thing), thing == (0, 2))
            self.assertIs(makes_whole(friends[0], 0, OFFERS, thing), thing == (0, 2))
            for error, ask, good in (
                (NoWord, lambda told: sorted_by(told, friends), ()),
                (NoRow, lambda told: Desk().say(told), ()),
                (NoExchange, lambda told: gains_by(friends, told, PRICES), (exchange, ())),
                (NoPaper, lambda told: shown_by(friends, told), (paper,)),
                (NoText, album_read, [album_text(friend) for friend in friends]),
                (NoPrices, lambda told: worth_by(friends[0], told), ((),)),
                (NoStamps, lambda told: Album(BOOK, "", told), (None, ())),
            ):
                if thing not in good:
                    with self.assertRaises(error, msg=repr(thing)[:200]):
                        ask(thing)
        self.assertEqual([state(friend) for friend in friends], before)

    def test_numbers_of_very_many_figures(self):
        friends = swappers()
        count = FORTY
        dears = ((0, (0, 0, 1), 1), (1, (0, 1, 0), 1))
        # Each time what is shown has twice as many figures: the price and the count in one.
        for _ in range(8):
            friends[0].put((0, 0, 1), count)
            dears = ((0, (0, 0, 1), count), dears[1])
            self.assertIs(is_paper(friends, ((count, count), dears, ())), True)
            count = shown_by(friends, ((0, 0), dears, ()))
        self.assertGreater(count, 10 ** 9000)
        self.assertEqual(state(album_read(album_text(friends[0]))), state(friends[0]))
        self.assertEqual(most_gaps(friends)[1], 2)
        self.assertIs(is_exchange(friends, ((count, 1, (0, 0, 1)), (1, count, (0, 1, 0)))), False)
        self.assertEqual([album.called() for album in sorted_by("many", friends)], ["other", "one"])
        self.assertEqual([album.called() for album in sorted_by("worth", friends, PRICES)], ["one", "other"])
        with self.assertRaises(Short) as caught:
            friends[1].take((0, 1, 0), count)
        self.assertEqual(caught.exception.by, count - 2)
        self.assertTrue(str(caught.exception))
        friends[1].put((0, 1, 0), caught.exception.by)
        self.assertEqual(friends[1].count_of((0, 1, 0)), count)
        self.assertIn("stamps)", repr(friends[1]))
        self.assertEqual(album_read(album_text(friends[1])), friends[1])
        # In a row it has more than forty figures.
        desk = Desk()
        desk.say("new a")
        figures = album_text(friends[1]).split("\n")[2].split(" ")[2]
        with self.assertRaises(NoRow):
            desk.say(f"put a 0 0 whole {figures}")


class NothingChanged(unittest.TestCase):
    """Point 4: nothing that is handed in is changed, and what is told is new and the asker's own."""

    def test_things_handed_in_stay(self):
        friends = swappers()
        before = [state(friend) for friend in friends]
        for thing in NOTHINGS:
            kept = copy.deepcopy(thing)
            for ask in (
                lambda told: is_paper(friends, told), lambda told: is_exchange(friends, told), most_gaps, album_read,
                lambda told: shown_by(friends, told), lambda told: sorted_by(told, friends), Desk().say,
                lambda told: sorted_by("name", told), lambda told: sorted_by("worth", friends, told),
                lambda told: worth_of(friends[0], PRICES, told), is_list,
            ):
                try:
                    self.assertIs(ask(thing), False)
                except HingeError as refusal:
                    self.assertIsInstance(refusal, NoThing)
                self.assertEqual(thing, kept)
        self.assertEqual([state(friend) for friend in friends], before)

    def test_what_is_told_is_the_askers_own(self):
        friends = swappers()
        before = [state(friend) for friend in friends]
        exchange = most_gaps(friends)[2]
        for told in (sorted_by("name", friends), exchanged(friends, exchange), parted(friends[0], (0,))):
            for album in told:
                album.put((1, 1, 1), 7)
        for told in (friends[0].all_of(), friends[0].doubles(), friends[0].gaps(0), rings_of(friends, exchange)):
            told.append(None)
        self.assertEqual([state(friend) for friend in friends], before)
        self.assertEqual(most_gaps(friends)[2], exchange)

    def test_what_was_told_stays_where_albums_change(self):
        friends = swappers()
        told = sorted_by("name", friends)
        read = album_read(album_text(friends[0]))
        kept = [state(album) for album in (*told, read)]
        friends[0].put((0, 2, 1), 3)
        friends[1].take((0, 1, 1))
        self.assertEqual([state(album) for album in (*told, read)], kept)
        self.assertEqual(album_read(album_text(Album(ONE))), Album(ONE))


if __name__ == "__main__":
    unittest.main()
