import unittest

from hingemount.albums import Album
from hingemount.errors import NoExchange, NoFriends, NoNumber, NoPrice, NoPrices
from hingemount.exchanges import exchanged, gains_by, is_exchange, is_fair, rings_of
from hingemount.worths import worth_by
from tests.things import NOTHINGS, state
from tests.test_exchanges import BOTH, ROUND, TWO_WAY, three

# (0, 0) has another price from 1950 on; (1, 1) has none ahead of 2000.
PRICES = ((0, 0, 1900, 10), (0, 0, 1950, 31), (0, 1, 1900, 5), (0, 2, 1900, 8), (1, 0, 1900, 7), (1, 1, 2000, 100))
WIDE = tuple(("x", year, 6) for year in range(1900, 1904))


def full_of(at):
    """An album with four of each stamp of set at, and nothing else."""
    return Album(WIDE, "", tuple((at, number, 1) for number in range(6)) * 4)


def walked(exchange):
    """The rings by another road: a give is taken out at once, sets of what is left kept sorted."""
    left = sorted(exchange)
    rings = []
    while left:
        ring = [left.pop(0)]
        while ring[-1][1] != ring[0][0]:
            at = next(at for at, give in enumerate(left) if give[0] == ring[-1][1])
            ring.append(left.pop(at))
        rings.append(tuple(ring))
    return rings


class Rings(unittest.TestCase):
    """Point 64: the rings in which an exchange goes."""

    def test_none_and_one(self):
        self.assertEqual(rings_of(three(), ()), [])
        self.assertEqual(rings_of(three(), TWO_WAY), [TWO_WAY])
        self.assertEqual(rings_of(three(), ROUND), [ROUND])

    def test_several(self):
        first, second, third, fourth, fifth, last = BOTH
        self.assertEqual(rings_of(three(), BOTH), [(first, third), (second, fifth), (fourth, last)])

    def test_two_and_two(self):
        friends = (full_of(0), full_of(1), full_of(2), full_of(3))
        gives = ((0, 1, (0, 0, 1)), (1, 0, (1, 0, 1)), (2, 3, (2, 0, 1)), (3, 2, (3, 0, 1)))
        self.assertEqual(rings_of(friends, gives), [gives[:2], gives[2:]])
        gives = ((0, 2, (0, 0, 1)), (1, 3, (1, 0, 1)), (2, 0, (2, 0, 1)), (3, 1, (3, 0, 1)))
        self.assertEqual(rings_of(friends, gives), [(gives[0], gives[2]), (gives[1], gives[3])])

    def test_a_ring_goes_on_with_the_least_give_that_is_left(self):
        friends = (full_of(0), full_of(1), full_of(2))
        # The first ring goes by way of (1, 0, ..), for it is less than (1, 2, ..).
        gives = ((0, 1, (0, 0, 1)), (0, 1, (0, 1, 1)), (1, 0, (1, 0, 1)), (1, 2, (1, 0, 1)), (2, 0, (2, 5, 1)))
        self.assertEqual(rings_of(friends, gives), [(gives[0], gives[2]), (gives[1], gives[3], gives[4])])

    def test_a_ring_that_comes_by_one_friend_twice(self):
        friends = (full_of(0), full_of(1), full_of(2), full_of(3))
        gives = ((0, 3, (0, 0, 1)), (1, 3, (1, 0, 1)), (3, 0, (3, 1, 1)), (3, 1, (3, 1, 1)))
        self.assertEqual(rings_of(friends, gives), [(gives[0], gives[2]), (gives[1], gives[3])])
        gives = ((0, 3, (0, 0, 1)), (1, 3, (1, 0, 1)), (2, 0, (2, 2, 1)), (3, 1, (3, 0, 1)), (3, 2, (3, 0, 1)))
        self.assertEqual(rings_of(friends, gives), [(gives[0], gives[3], gives[1], gives[4], gives[2])])

    def test_many_gives(self):
        friends = (full_of(0), full_of(1), full_of(2), full_of(3))
        gives = tuple(
            (giver, taker, (giver, number, 1))
            for giver in range(4) for taker in range(4) for number in range(6) if giver != taker
        )
        # Three of each stamp are doubles, and each other friend gets one of them.
        self.assertIs(is_exchange(friends, gives), True)
        told = rings_of(friends, gives)
        self.assertEqual(told, walked(gives))
        self.assertEqual(sorted(give for ring in told for give in ring), list(gives))
        for ring in told:
            self.assertEqual([give[1] for give in ring], [give[0] for give in ring[1:] + ring[:1]])

    def test_a_told_list_is_the_askers_own(self):
        friends = three()
        told = rings_of(exchange=BOTH, friends=friends)
        self.assertEqual([type(told), *map(type, told)], [list, tuple, tuple, tuple])
        first = list(told)
        told.pop()
        told[0] = None
        self.assertEqual(rings_of(friends, BOTH), first)
        self.assertEqual([state(friend) for friend in friends], [state(friend) for friend in three()])

    def test_refused(self):
        with self.assertRaises(NoFriends):
            rings_of(None, None)
        for thing in (None, TWO_WAY[:1], list(TWO_WAY), *NOTHINGS):
            with self.assertRaises(NoExchange):
                rings_of(three(), thing)


class Gains(unittest.TestCase):
    """Point 64: what each friend gains."""

    def test_what_they_get_less_what_they_give(self):
        # Anna gives (0, 0) hinged, 5 or 15 and a half, for (0, 1) hinged, 2 and a half.
        self.assertEqual(gains_by(three(), TWO_WAY, PRICES, 1900), ((-3, 1), (2, 1), (0, 0)))
        self.assertEqual(gains_by(three(), TWO_WAY, PRICES, 1949), ((-3, 1), (2, 1), (0, 0)))
        self.assertEqual(gains_by(three(), TWO_WAY, PRICES, 1950), ((-13, 0), (13, 0), (0, 0)))
        self.assertEqual(gains_by(three(), ROUND, PRICES, 1900), ((-6, 0), (7, 1), (-2, 1)))

    def test_the_year_left_out_is_the_last(self):
        late = (*PRICES, (0, 1, 2100, 1))
        self.assertEqual(gains_by(three(), TWO_WAY, late), ((-15, 0), (15, 0), (0, 0)))
        self.assertEqual(gains_by(three(), TWO_WAY, late, 2099), ((-13, 0), (13, 0), (0, 0)))

    def test_several_rings(self):
        # 31 and 15 and a half for 2 and a half and 4; 2 and a half and 50 for 31 and 3 and a half.
        self.assertEqual(gains_by(three(), BOTH, PRICES), ((-40, 0), (-18, 0), (58, 0)))

    def test_nobody_gives(self):
        for prices in ((), PRICES):
            self.assertEqual(gains_by(three(), (), prices), ((0, 0),) * 3)
            self.assertEqual(gains_by(three()[:2], (), prices, 1840), ((0, 0),) * 2)

    def test_as_the_albums_worths_behind_and_ahead(self):
        friends = three()
        for exchange in (TWO_WAY, ROUND, BOTH):
            gains = gains_by(friends, exchange, PRICES, 2000)
            for friend, behind, gain in zip(friends, exchanged(friends, exchange), gains):
                ahead, after = worth_by(friend, PRICES, 2000), worth_by(behind, PRICES, 2000)
                self.assertEqual(2 * after[0] + after[1] - 2 * ahead[0] - ahead[1], 2 * gain[0] + gain[1])
                self.assertIn(gain[1], (0, 1))

    def test_kinds_and_names(self):
        told = gains_by(year=1900, prices=PRICES, exchange=TWO_WAY, friends=three())
        self.assertEqual(told, ((-3, 1), (2, 1), (0, 0)))
        self.assertEqual([type(told), *map(type, told)], [tuple] * 4)
        self.assertEqual([type(part) for worth in told for part in worth], [int] * 6)


class Fair(unittest.TestCase):
    """Point 64: whether nobody loses more than most."""

    def test_by_just_enough_and_one_penny_less(self):
        self.assertIs(is_fair(three(), TWO_WAY, PRICES, 1950, 13), True)
        self.assertIs(is_fair(three(), TWO_WAY, PRICES, 1950, 14), True)
        self.assertIs(is_fair(three(), TWO_WAY, PRICES, 1950, 12), False)
        self.assertIs(is_fair(three(), BOTH, PRICES, 2100, 40), True)
        self.assertIs(is_fair(three(), BOTH, PRICES, 2100, 39), False)

    def test_with_a_half(self):
        # The loss is two pence and a half.
        self.assertIs(is_fair(three(), TWO_WAY, PRICES, 1900, 3), True)
        self.assertIs(is_fair(three(), TWO_WAY, PRICES, 1900, 2), False)
        # Just half a penny.
        prices = ((0, 0, 1900, 6), (0, 1, 1900, 5))
        self.assertIs(is_fair(three(), TWO_WAY, prices, 1900, 1), True)
        self.assertIs(is_fair(three(), TWO_WAY, prices, 1900, 0), False)

    def test_most_left_out_is_nothing(self):
        alike = ((0, 0, 1900, 9), (0, 1, 1900, 9))
        self.assertIs(is_fair(three(), TWO_WAY, alike, 1900), True)
        self.assertIs(is_fair(three(), TWO_WAY, alike), True)
        self.assertIs(is_fair(three(), TWO_WAY, ((0, 0, 1900, 10), (0, 1, 1900, 9))), False)
        self.assertIs(is_fair(three(), TWO_WAY, ((0, 0, 1900, 8), (0, 1, 1900, 9))), False)
        self.assertIs(is_fair(three(), (), ()), True)

    def test_the_year_left_out_is_the_last(self):
        late = (*PRICES, (0, 0, 2100, 5))
        self.assertIs(is_fair(three(), TWO_WAY, late), True)
        self.assertIs(is_fair(three(), TWO_WAY, late, most=0), True)
        self.assertIs(is_fair(three(), TWO_WAY, late, 2099), False)

    def test_whoever_loses(self):
        friends = three()
        for turned in ((friends[1], friends[0]), (friends[1], friends[0], friends[2])):
            gives = ((0, 1, (0, 1, 0)), (1, 0, (0, 0, 0)))
            self.assertIs(is_fair(turned, gives, PRICES, 1950, 13), True)
            self.assertIs(is_fair(turned, gives, PRICES, 1950, 12), False)

    def test_by_names(self):
        told = is_fair(most=12, year=1950, prices=PRICES, exchange=TWO_WAY, friends=three())
        self.assertIs(told, False)
        self.assertIs(is_fair(most=13, year=1950, prices=PRICES, exchange=TWO_WAY, friends=three()), True)

    def test_very_much(self):
        self.assertIs(is_fair(three(), TWO_WAY, PRICES, 1950, 10 ** 39), True)


class Refused(unittest.TestCase):
    """Points 5 and 64: what stands further to the left comes first, NoPrice behind all."""

    def test_whatever_kind(self):
        friends = three()
        before = [state(friend) for friend in friends]
        for thing in (None, 0, "", ((0, 3, 1900, 1),), [], *NOTHINGS):
            with self.assertRaises(NoPrices):
                gains_by(friends, TWO_WAY, thing)
            with self.assertRaises(NoPrices):
                is_fair(friends, TWO_WAY, thing)
        for thing in (None, 0, 1839, 2101, "1900", *NOTHINGS):
            with self.assertRaises(NoNumber):
                gains_by(friends, TWO_WAY, PRICES, thing)
            with self.assertRaises(NoNumber):
                is_fair(friends, TWO_WAY, PRICES, thing)
        for thing in (None, -1, "1", (), *NOTHINGS):
            with self.assertRaises(NoNumber):
                is_fair(friends, TWO_WAY, PRICES, 1950, thing)
        self.assertEqual([state(friend) for friend in friends], before)

    def test_each_ahead_of_what_stands_further_to_the_right(self):
        good = (three(), TWO_WAY, PRICES, 1950, 13)
        errors = (NoFriends, NoExchange, NoPrices, NoNumber, NoNumber)
        for ask, many in ((gains_by, 4), (is_fair, 5)):
            for at in range(many):
                with self.assertRaises(errors[at]):
                    ask(*good[:at], *[None] * (many - at))
                with self.assertRaises(errors[at]):
                    ask(*good[:at], None, *good[at + 1:many])

    def test_no_price_of_a_place_given(self):
        # (1, 1) has a price from 2000 on alone, and no other place has one ahead of 1900.
        for ask in (gains_by, is_fair):
            with self.assertRaises(NoPrice):
                ask(three(), BOTH, PRICES, 1999)
            with self.assertRaises(NoPrice):
                ask(three(), TWO_WAY, PRICES, 1899)
            with self.assertRaises(NoPrice):
                ask(three(), TWO_WAY, ())
            ask(three(), BOTH, PRICES, 2000)
            ask(three(), ROUND, PRICES, 1999)

    def test_no_price_behind_all_that_is_none(self):
        with self.assertRaises(NoNumber):
            gains_by(three(), TWO_WAY, (), 1839)
        with self.assertRaises(NoNumber):
            is_fair(three(), TWO_WAY, (), 1839)
        with self.assertRaises(NoNumber):
            is_fair(three(), TWO_WAY, (), 2100, -1)
        with self.assertRaises(NoNumber):
            is_fair(three(), TWO_WAY, PRICES, 1899, True)


if __name__ == "__main__":
    unittest.main()
