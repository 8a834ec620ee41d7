import itertools
import random
import unittest

from hingemount.albums import Album
from hingemount.errors import NoExchange, NoFriends
from hingemount.exchanges import exchanged, gains_by, is_exchange, is_fair, rings_of
from hingemount.lists import all_stamps
from tests.things import FORTY, NOTHINGS, ONE, state

BOOK = (("a", 1900, 3), ("b", 1900, 2))


def ask_all(friends, exchange):
    """What each of the functions asked about these friends and this exchange."""
    return (
        lambda: exchanged(friends, exchange),
        lambda: rings_of(friends, exchange),
        lambda: gains_by(friends, exchange, None, None),
        lambda: is_fair(friends, exchange, None, None, None),
    )


def three():
    """Three friends; each has doubles that the others lack."""
    return (
        Album(BOOK, "anna", ((0, 0, 1), (0, 0, 1), (0, 0, 0), (1, 1, 1))),
        Album(BOOK, "", ((0, 1, 0), (0, 1, 0), (0, 1, 0), (1, 1, 0), (1, 1, 1))),
        Album(BOOK, "cleo", ((0, 2, 1), (0, 2, 0), (1, 0, 0), (1, 0, 0), (1, 0, 1))),
    )


TWO_WAY = ((0, 1, (0, 0, 0)), (1, 0, (0, 1, 0)))
ROUND = ((0, 1, (0, 0, 1)), (1, 2, (0, 1, 0)), (2, 0, (0, 2, 0)))
BOTH = (
    (0, 1, (0, 0, 1)), (0, 2, (0, 0, 0)),
    (1, 0, (0, 1, 0)), (1, 2, (1, 1, 0)),
    (2, 0, (0, 2, 0)), (2, 1, (1, 0, 0)),
)


def is_one(friends, gives):
    """Whether a tuple of tuples (giver, taker, stamp) is an exchange, by another road: done one by one."""
    left = [dict(friend.doubles()) for friend in friends]
    filled = [{stamp[:2] for stamp, _ in friend.all_of()} for friend in friends]
    levels = [0] * len(friends)
    if list(gives) != sorted(set(gives)):
        return False
    for giver, taker, stamp in gives:
        if giver == taker or not left[giver].get(stamp) or stamp[:2] in filled[taker]:
            return False
        left[giver][stamp] -= 1
        filled[taker].add(stamp[:2])
        levels[giver] += 1
        levels[taker] -= 1
    return not any(levels)


class IsExchange(unittest.TestCase):
    """Point 61: what is an exchange."""

    def good(self, friends, *things):
        for thing in things:
            self.assertIs(is_exchange(friends, thing), True, thing)

    def bad(self, friends, *things):
        for thing in things:
            self.assertIs(is_exchange(friends, thing), False, repr(thing)[:200])
            for ask in ask_all(friends, thing):
                with self.assertRaises(NoExchange, msg=repr(thing)[:200]):
                    ask()

    def test_none_one_ring_and_several(self):
        self.good(three(), (), TWO_WAY, ROUND, BOTH)

    def test_a_give_less(self):
        for whole in (TWO_WAY, ROUND, BOTH):
            for at in range(len(whole)):
                self.bad(three(), whole[:at] + whole[at + 1:])

    def test_a_give_twice(self):
        for whole in (TWO_WAY, ROUND, BOTH):
            for at in range(len(whole)):
                self.bad(three(), whole[:at + 1] + whole[at:])
            self.bad(three(), tuple(sorted(whole + whole)), whole + whole)

    def test_out_of_order(self):
        for whole in (TWO_WAY, ROUND):
            for turned in itertools.permutations(whole):
                if turned != whole:
                    self.bad(three(), turned)
        self.bad(three(), BOTH[1:] + BOTH[:1], BOTH[::-1])

    def test_another_give(self):
        first, last = TWO_WAY
        for give in ((0, 1, (0, 0, 1)), (0, 1, (0, 0, 0))):
            self.good(three(), (give, last))
        # Not among the doubles, not there at all, a place that the taker has, no stamp of the list.
        for stamp in ((1, 1, 1), (0, 1, 0), (0, 2, 1), (1, 0, 0), (0, 3, 0), (2, 0, 0), (0, 0, 2), (0, -1, 0)):
            self.bad(three(), ((0, 1, stamp), last))
        self.bad(three(), (first, (1, 0, (1, 1, 0))), (first, (1, 0, (0, 1, 1))))
        self.bad(three(), (first, (1, 2, (0, 1, 0))), ((2, 1, (0, 0, 0)), last))
        self.bad(three(), ((0, 0, (0, 0, 0)),), ((0, 0, (0, 1, 0)),))
        self.bad(three(), ((0, 3, (0, 0, 0)), (3, 0, (0, 1, 0))), ((0, 10 ** 39, (0, 0, 0)),))
        self.bad(three(), ((-3, 1, (0, 0, 0)), last))
        self.bad(three(), ((0, -2, (0, 0, 0)), last), ((-3, -2, (0, 0, 0)), (-2, -3, (0, 1, 0))))

    def test_a_stamp_is_given_as_often_as_it_is_among_the_doubles(self):
        book = (("x", 1900, 4),)
        for doubles in range(4):
            giver = Album(book, "", ((0, 0, 0),) * (doubles + 1))
            friends = (giver, *[Album(book, "", ((0, at, 0), (0, at, 0))) for at in (1, 2, 3)])
            for many in range(4):
                gives = tuple((0, at + 1, (0, 0, 0)) for at in range(many))
                back = tuple((at + 1, 0, (0, at + 1, 0)) for at in range(many))
                self.assertIs(is_exchange(friends, gives + back), many <= doubles, (doubles, many))

    def test_two_stamps_of_one_place_to_one_friend(self):
        one = Album(BOOK, "", ((0, 0, 1), (0, 0, 1), (0, 0, 0), (1, 1, 0)))
        other = Album(BOOK, "", ((0, 1, 1), (0, 1, 1), (0, 1, 0), (0, 2, 0), (0, 2, 0)))
        self.good((one, other), ((0, 1, (0, 0, 0)), (1, 0, (0, 1, 0))), ((0, 1, (0, 0, 1)), (1, 0, (0, 2, 0))))
        self.bad((one, other), ((0, 1, (0, 0, 0)), (0, 1, (0, 0, 1)), (1, 0, (0, 1, 0)), (1, 0, (0, 1, 1))))
        self.bad((one, other), ((0, 1, (0, 0, 0)), (0, 1, (0, 0, 1)), (1, 0, (0, 1, 0)), (1, 0, (0, 2, 0))))
        # From two friends, it is one place as well.
        third = Album(BOOK, "", ((0, 0, 1), (0, 0, 1)))
        gives = ((0, 1, (0, 0, 0)), (1, 0, (0, 1, 0)), (1, 2, (0, 2, 0)), (2, 1, (0, 0, 1)))
        self.bad((one, other, third), gives)
        self.bad((one, other, third), ((0, 1, (0, 0, 1)), *gives[1:]))

    def test_two_grades_of_one_place_to_two_friends(self):
        gives = ((0, 1, (0, 0, 0)), (0, 2, (0, 0, 1)), (1, 0, (0, 1, 0)), (2, 0, (1, 0, 0)))
        self.good(three(), gives)

    def test_who_gives_more_than_they_get(self):
        first, last = TWO_WAY
        self.bad(three(), (first,), (last,), (first, (0, 2, (0, 0, 1)), last))
        self.bad(three(), ((0, 1, (0, 0, 0)), (1, 2, (0, 1, 0))))
        # All in all as many are given as are got, but not by each.
        self.bad(three(), (first, (1, 2, (0, 1, 0)), (2, 1, (1, 0, 0)), (2, 1, (0, 2, 0))))

    def test_truths_in_numbers_places(self):
        friends = (Album(BOOK, "", ((0, 0, 1),) * 2), Album(BOOK, "", ((0, 1, 0),) * 2))
        good = ((0, 1, (0, 0, 1)), (1, 0, (0, 1, 0)))
        self.good(friends, good)
        for at in range(2):
            giver, taker, stamp = good[at]
            odd = [(bool(giver), taker, stamp), (giver, bool(taker), stamp)]
            for part in range(3):
                odd.append((giver, taker, (*stamp[:part], bool(stamp[part]), *stamp[part + 1:])))
            for give in odd:
                self.assertEqual(give, good[at])
                self.bad(friends, (*good[:at], give, *good[at + 1:]))

    def test_other_kinds_and_shapes(self):
        first, last = TWO_WAY
        self.bad(three(), [], [first, last], {}, {first: last}, first, ([*first], last), (first, [*last]))
        for odd in (None, "", "0", (), (0,), [], [0], {}, [0, 0, 0], (0, 0), (0, 0, 0, 0), ((0, 0, 0),)):
            self.bad(three(), ((0, 1, odd), last), ((odd, 1, first[2]), last), ((0, odd, first[2]), last))
            self.bad(three(), (odd,), (first, odd))
        self.bad(three(), ((0, 1), last), ((0, 1, (0, 0, 0), 0), last))
        self.bad(three(), ((0, 1, 0, 0, 0), last), ((0, 1, [0, 0, 0]), last))

    def test_whatever_kind(self):
        self.bad(three(), None, 0, 1, "", three(), *NOTHINGS)
        self.bad(three(), tuple(TWO_WAY[0] for _ in range(1200)), tuple((0, 1, (0, 0, 0)) for _ in range(1500)))

    def test_very_many_of_one_stamp(self):
        friends = three()
        friends[0].put((0, 0, 0), FORTY)
        self.good(friends, (), TWO_WAY, ROUND, BOTH)

    def test_by_names(self):
        self.assertIs(is_exchange(thing=TWO_WAY, friends=three()), True)

    def test_by_chance(self):
        chance = random.Random(61)
        found = 0
        for _ in range(400):
            many = chance.randint(2, 4)
            friends = []
            for _ in range(many):
                stamps = [stamp for stamp in all_stamps(BOOK) if chance.random() < 0.4]
                friends.append(Album(BOOK, "", tuple(stamps + chance.choices(stamps or [(0, 0, 0)], k=4))))
            friends = tuple(friends)
            able = [
                (giver, taker, stamp)
                for giver in range(many) for taker in range(many) for stamp in all_stamps(BOOK)
                if stamp in dict(friends[giver].doubles()) and stamp[1] in friends[taker].gaps(stamp[0])
            ]
            for _ in range(30):
                gives = tuple(sorted(chance.sample(able, min(len(able), chance.randint(0, 4)))))
                if gives and chance.random() < 0.2:
                    gives = gives[:-1] + ((gives[-1][0], gives[-1][1], chance.choice(all_stamps(BOOK))),)
                self.assertIs(is_exchange(friends, gives), is_one(friends, gives))
                found += bool(gives) and is_one(friends, gives)
        self.assertGreater(found, 100)


class Friends(unittest.TestCase):
    """Point 61: what friends are."""

    def bad(self, *things):
        for thing in things:
            with self.assertRaises(NoFriends, msg=repr(thing)[:200]):
                is_exchange(thing, ())
            with self.assertRaises(NoFriends, msg=repr(thing)[:200]):
                is_exchange(thing, None)
            for ask in (*ask_all(thing, ()), *ask_all(thing, None)):
                with self.assertRaises(NoFriends, msg=repr(thing)[:200]):
                    ask()

    def test_two_to_four(self):
        albums = tuple(Album(ONE, "a") for _ in range(6))
        for many in (2, 3, 4):
            self.assertIs(is_exchange(albums[:many], ()), True)
        self.bad((), albums[:1], albums[:5], albums)

    def test_of_one_list(self):
        self.bad((Album(ONE), Album(BOOK)), (Album(BOOK), Album(BOOK), Album(ONE)))
        self.bad((Album(ONE), Album(ONE), Album(BOOK), Album(ONE)))
        self.bad((Album(BOOK), Album(BOOK[:1])), (Album((("x", 1900, 1),)), Album((("x", 1900, 2),))))
        self.assertIs(is_exchange((Album(ONE), Album((("x", 1900, 1),))), ()), True)

    def test_one_album_twice(self):
        album = Album(ONE, "a", ((0, 0, 0), (0, 0, 0)))
        self.assertIs(is_exchange((album, album), ()), True)
        self.assertEqual([state(told) for told in exchanged((album, album), ())], [state(album)] * 2)
        self.assertIs(is_exchange((album, album), ((0, 1, (0, 0, 0)), (1, 0, (0, 0, 0)))), False)

    def test_other_kinds(self):
        album = Album(ONE)
        self.bad([album, album], album, {0: album, 1: album}, ((album, album),))
        self.bad((album, None), (None, album), (album, ONE))
        self.bad((ONE, ONE), (0, 1), ("a", "b"), (True, False), (album, [album]), (album, album, 0))

    def test_whatever_kind(self):
        self.bad(None, 0, 1, "", *NOTHINGS)


class Exchanged(unittest.TestCase):
    """Point 61: the albums behind an exchange."""

    def test_none(self):
        self.assertEqual([state(album) for album in exchanged(three(), ())], [state(album) for album in three()])

    def test_less_what_they_gave_more_what_they_got(self):
        told = exchanged(three(), TWO_WAY)
        self.assertIs(type(told), list)
        self.assertEqual([type(album) for album in told], [Album] * 3)
        anna = [((0, 0, 1), 2), ((0, 1, 0), 1), ((1, 1, 1), 1)]
        other = [((0, 0, 0), 1), ((0, 1, 0), 2), ((1, 1, 0), 1), ((1, 1, 1), 1)]
        self.assertEqual([state(album) for album in told[:2]], [(BOOK, "anna", anna), (BOOK, "", other)])
        self.assertEqual(state(told[2]), state(three()[2]))

    def test_several_rings(self):
        told = exchanged(exchange=BOTH, friends=three())
        anna = [((0, 0, 1), 1), ((0, 1, 0), 1), ((0, 2, 0), 1), ((1, 1, 1), 1)]
        other = [((0, 0, 1), 1), ((0, 1, 0), 2), ((1, 0, 0), 1), ((1, 1, 1), 1)]
        cleo = [((0, 0, 0), 1), ((0, 2, 1), 1), ((1, 0, 0), 1), ((1, 0, 1), 1), ((1, 1, 0), 1)]
        self.assertEqual([album.all_of() for album in told], [anna, other, cleo])
        self.assertEqual([album.called() for album in told], ["anna", "", "cleo"])

    def test_the_friends_stay_and_hang_on_nothing(self):
        friends = three()
        before = [state(album) for album in friends]
        for exchange in ((), TWO_WAY, BOTH):
            told = exchanged(friends, exchange)
            first = [state(album) for album in told]
            for album, friend in zip(told, friends):
                self.assertIsNot(album, friend)
                album.put((0, 2, 0), 7)
                self.assertEqual([state(each) for each in friends], before)
            told.clear()
            self.assertEqual([state(album) for album in exchanged(friends, exchange)], first)
        told = exchanged(friends, TWO_WAY)
        after = [state(album) for album in told]
        friends[0].put((0, 0, 0), 3)
        friends[2].take((0, 2, 0))
        self.assertEqual([state(album) for album in told], after)

    def test_nothing_is_lost(self):
        friends = three()
        told = exchanged(friends, BOTH)
        for stamp in all_stamps(BOOK):
            self.assertEqual(
                sum(album.count_of(stamp) for album in told),
                sum(album.count_of(stamp) for album in friends),
            )


if __name__ == "__main__":
    unittest.main()
