import itertools
import random
import unittest

from hingemount.deals import chain_of, fallen, is_chain, owners_behind, owners_left
from hingemount.errors import NoDeals, NoNumber, NoOwners
from tests.things import NOTHINGS

OWNERS = (0, 0, 0, 0, 0, 0)
# Stamp 0 is moved by 0 and 3; 1 goes along with 0 and comes into 2 and 4; 5 moves what came
# by 2 and 4; stamp 4 alone is moved by 1 and 6, and nothing leans on what falls there.
DEALS = (
    ((0, 0, 1), (1, 0, 1)),
    ((4, 0, 2),),
    ((1, 1, 2), (2, 0, 2)),
    ((0, 1, 3), (5, 0, 3)),
    ((1, 2, 4), (3, 0, 4)),
    ((2, 2, 5), (3, 4, 5)),
    ((4, 2, 0),),
)
NO_PLACES = (-1, 10 ** 39, None, "", "0", (), (0,), 1.0, *NOTHINGS)


def some_deals(chance):
    """Owners and up to ten deals, by chance; few stamps, so that many deals lean on others."""
    owners = tuple(chance.randrange(6) for _ in range(chance.randint(1, 7)))
    now = list(owners)
    deals = []
    for _ in range(chance.randint(0, 10)):
        stamps = chance.sample(range(len(owners)), chance.randint(1, min(3, len(owners))))
        deal = []
        for stamp in stamps:
            taker = chance.choice([friend for friend in range(6) if friend != now[stamp]])
            deal.append((stamp, now[stamp], taker))
            now[stamp] = taker
        deals.append(tuple(deal))
    return owners, tuple(deals)


def leans(deals, ahead, place):
    """Whether a deal moves a stamp that came last, ahead of it, by the one ahead."""
    for stamp in {move[0] for move in deals[place]} & {move[0] for move in deals[ahead]}:
        between = [move[0] for deal in deals[ahead + 1:place] for move in deal]
        if ahead < place and stamp not in between:
            return True
    return False


def all_chains(deals, stamp, place):
    """All chains of a deal, found by trying each rising tuple that ends in it."""
    told = []
    for many in range(place + 1):
        for head in itertools.combinations(range(place), many):
            chain = (*head, place)
            begins = stamp in [move[0] for move in deals[chain[0]]]
            if begins and all(leans(deals, ahead, at) for ahead, at in zip(chain, chain[1:])):
                told.append(chain)
    return told


class Falling(unittest.TestCase):
    """Point 42: the deals that fall, and the owners behind those that stand."""

    def test_deals_that_move_the_false_stamp_and_what_leans_on_them(self):
        self.assertEqual(fallen(OWNERS, DEALS, 0), (0, 2, 3, 4, 5))
        self.assertEqual(fallen(OWNERS, DEALS, 1), (0, 2, 3, 4, 5))
        self.assertEqual(fallen(OWNERS, DEALS, 2), (2, 4, 5))
        self.assertEqual(fallen(OWNERS, DEALS, 3), (4, 5))
        self.assertEqual(fallen(OWNERS, DEALS, 4), (1, 6))
        self.assertEqual(fallen(OWNERS, DEALS, 5), (3,))

    def test_a_stamp_that_nothing_moves(self):
        self.assertEqual(fallen((0, 1), (((0, 0, 1),),), 1), ())
        self.assertEqual(owners_left((0, 1), (((0, 0, 1),),), 1), (1, 1))
        self.assertEqual(fallen((0, 1), (), 1), ())
        self.assertEqual(owners_left((0, 1), (), 1), (0, 1))

    def test_a_deal_ahead_of_the_fallen_ones_stands(self):
        deals = (((1, 0, 2),), ((0, 0, 1), (1, 2, 3)), ((1, 3, 4),))
        self.assertEqual(fallen((0, 0), deals, 0), (1, 2))
        self.assertEqual(owners_left((0, 0), deals, 0), (0, 2))

    def test_the_owners_behind_all_that_stand(self):
        self.assertEqual(owners_left(OWNERS, DEALS, 0), (0, 0, 0, 0, 0, 0))
        self.assertEqual(owners_left(OWNERS, DEALS, 2), (3, 1, 0, 0, 0, 3))
        self.assertEqual(owners_left(OWNERS, DEALS, 3), (3, 2, 2, 0, 0, 3))
        self.assertEqual(owners_left(OWNERS, DEALS, 4), (3, 4, 5, 5, 0, 3))
        self.assertEqual(owners_left(OWNERS, DEALS, 5), (1, 4, 5, 5, 0, 0))
        self.assertEqual(owners_left(OWNERS, DEALS[:2], 0), (0, 0, 0, 0, 2, 0))

    def test_once_fallen_no_later_deal_of_that_stamp_stands(self):
        # Stamp 1 is moved by the fallen deal 0, then by others: each leans on the one ahead.
        deals = (((0, 0, 1), (1, 0, 1)), ((1, 1, 2),), ((2, 0, 1),), ((1, 2, 3), (2, 1, 3)), ((2, 3, 4),))
        self.assertEqual(fallen((0, 0, 0), deals, 0), (0, 1, 3, 4))
        self.assertEqual(owners_left((0, 0, 0), deals, 0), (0, 0, 1))

    def test_kinds_and_names(self):
        told = fallen(stamp=2, deals=DEALS, owners=OWNERS)
        self.assertEqual(told, (2, 4, 5))
        self.assertEqual([type(told), *map(type, told)], [tuple, int, int, int])
        told = owners_left(stamp=5, deals=DEALS, owners=OWNERS)
        self.assertEqual(told, (1, 4, 5, 5, 0, 0))
        self.assertIs(type(told), tuple)

    def test_by_chance(self):
        chance = random.Random(42)
        for _ in range(300):
            owners, deals = some_deals(chance)
            for stamp in range(len(owners)):
                falls = fallen(owners, deals, stamp)
                chained = [at for at in range(len(deals)) if all_chains(deals, stamp, at)]
                self.assertEqual(falls, tuple(chained))
                stand = tuple(deal for at, deal in enumerate(deals) if at not in falls)
                # That these are deals at all shows that each of them can be done.
                self.assertEqual(owners_left(owners, deals, stamp), owners_behind(owners, stand, len(stand)))

    def test_no_number_of_a_stamp(self):
        for ask in (fallen, owners_left):
            for thing in (6, *NO_PLACES):
                with self.assertRaises(NoNumber):
                    ask(OWNERS, DEALS, thing)
            with self.assertRaises(NoNumber):
                ask((0,), (), 1)

    def test_what_stands_further_to_the_left_first(self):
        for ask in (fallen, owners_left):
            with self.assertRaises(NoOwners):
                ask(None, None, None)
            with self.assertRaises(NoDeals):
                ask(OWNERS, None, None)
            with self.assertRaises(NoNumber):
                ask(OWNERS, DEALS, None)


class Chains(unittest.TestCase):
    """Point 43: the first of the shortest chains, and what is one."""

    def test_the_shortest(self):
        self.assertEqual(chain_of(OWNERS, DEALS, 0, 0), (0,))
        self.assertEqual(chain_of(OWNERS, DEALS, 0, 2), (0, 2))
        self.assertEqual(chain_of(OWNERS, DEALS, 0, 3), (3,))
        self.assertEqual(chain_of(OWNERS, DEALS, 0, 4), (0, 2, 4))
        self.assertEqual(chain_of(OWNERS, DEALS, 0, 5), (0, 2, 5))
        self.assertEqual(chain_of(OWNERS, DEALS, 3, 5), (5,))
        self.assertEqual(chain_of(OWNERS, DEALS, 1, 5), (2, 5))

    def test_of_several_the_first(self):
        # Both 1 and 2 move the false stamp, and each brings one stamp into 4; 3 comes between.
        deals = (((3, 0, 1),), ((0, 0, 1), (1, 0, 1)), ((0, 1, 2), (2, 0, 2)), ((3, 1, 2),), ((1, 1, 3), (2, 2, 3)))
        for moves in (deals[4], deals[4][::-1]):
            turned = (*deals[:4], moves)
            self.assertEqual(chain_of((0, 0, 0, 0), turned, 0, 4), (1, 4))
            self.assertTrue(is_chain((0, 0, 0, 0), turned, 0, 4, (2, 4)))

    def test_the_shorter_ahead_of_the_first(self):
        # (0, 1, 3) stands first as tuples compare, (2, 3) is shorter.
        deals = (((0, 0, 1), (1, 0, 1)), ((1, 1, 2),), ((0, 1, 2), (2, 0, 2)), ((1, 2, 3), (2, 2, 3)))
        self.assertEqual(chain_of((0, 0, 0), deals, 0, 3), (2, 3))
        self.assertTrue(is_chain((0, 0, 0), deals, 0, 3, (0, 1, 3)))

    def test_none_where_the_deal_stands(self):
        for place in (1, 6):
            self.assertIsNone(chain_of(OWNERS, DEALS, 0, place))
        for place in (0, 1, 2, 3, 6):
            self.assertIsNone(chain_of(OWNERS, DEALS, 3, place))
            for thing in ((), (place,), (0, place), (0,), (4, 5), None):
                self.assertIs(is_chain(OWNERS, DEALS, 3, place, thing), False)

    def test_chains(self):
        for chain in ((0,), (0, 2), (3,), (0, 3), (0, 2, 4), (0, 2, 5), (0, 2, 4, 5)):
            self.assertIs(is_chain(OWNERS, DEALS, 0, chain[-1], chain), True, chain)

    def test_one_place_otherwise_cut_or_twice(self):
        for thing in ((0, 1, 5), (1, 2, 5), (0, 3, 5), (0, 2, 4), (3, 2, 5), (0, 2, 6), (2, 5), (0, 5), (5,), (0, 2)):
            self.assertIs(is_chain(OWNERS, DEALS, 0, 5, thing), False, thing)
        for thing in ((0, 0, 2, 5), (0, 2, 2, 5), (0, 2, 5, 5), (2, 0, 5), (5, 2, 0), (0, 2, 4, 5, 5), ()):
            self.assertIs(is_chain(OWNERS, DEALS, 0, 5, thing), False, thing)

    def test_of_another_deal_or_stamp(self):
        self.assertIs(is_chain(OWNERS, DEALS, 0, 4, (0, 2, 5)), False)
        self.assertIs(is_chain(OWNERS, DEALS, 0, 5, (0, 2, 4)), False)
        self.assertIs(is_chain(OWNERS, DEALS, 2, 5, (0, 2, 5)), False)
        self.assertIs(is_chain(OWNERS, DEALS, 2, 5, (2, 5)), True)

    def test_the_stamp_came_last_by_another_one(self):
        deals = (((0, 0, 1), (1, 0, 1)), ((1, 1, 2),), ((1, 2, 3),))
        self.assertEqual(chain_of((0, 0), deals, 0, 2), (0, 1, 2))
        self.assertIs(is_chain((0, 0), deals, 0, 2, (0, 2)), False)
        self.assertIs(is_chain((0, 0), deals, 0, 2, (0, 1, 2)), True)

    def test_beyond_and_below_all_places(self):
        for thing in ((-7, -5, -2), (-7, 2, 5), (0, 2, -2), (0, 2, 7), (0, 2, 5, 7), (0, 2, 10 ** 39), (-1, 0, 2, 5)):
            self.assertIs(is_chain(OWNERS, DEALS, 0, 5, thing), False, thing)

    def test_truths_and_other_kinds(self):
        deals = (((0, 0, 1),), ((0, 1, 2),))
        self.assertIs(is_chain((0,), deals, 0, 1, (0, 1)), True)
        self.assertIs(is_chain((0,), deals, 0, 1, (1,)), True)
        for thing in ((False, 1), (0, True), (True,), (0, None), ("0", 1), ((0,), 1)):
            self.assertIs(is_chain((0,), deals, 0, 1, thing), False, thing)
        for thing in ([0, 1], [1], {1: 1}, "1", 1, None):
            self.assertIs(is_chain((0,), deals, 0, 1, thing), False, thing)
        for thing in NOTHINGS:
            self.assertIs(is_chain((0,), deals, 0, 1, thing), False, repr(thing)[:200])

    def test_kinds_and_names(self):
        told = chain_of(place=5, stamp=0, deals=DEALS, owners=OWNERS)
        self.assertEqual(told, (0, 2, 5))
        self.assertEqual([type(told), *map(type, told)], [tuple, int, int, int])
        self.assertIs(is_chain(thing=(0, 2, 5), place=5, stamp=0, deals=DEALS, owners=OWNERS), True)

    def test_by_chance(self):
        chance = random.Random(43)
        for _ in range(150):
            owners, deals = some_deals(chance)
            for stamp in range(len(owners)):
                for place in range(len(deals)):
                    chains = all_chains(deals, stamp, place)
                    first = min(chains, key=lambda chain: (len(chain), chain), default=None)
                    self.assertEqual(chain_of(owners, deals, stamp, place), first)
                    for chain in chains:
                        self.assertIs(is_chain(owners, deals, stamp, place, chain), True)
                    for _ in range(5):
                        thing = tuple(chance.randrange(10) for _ in range(chance.randint(0, 2))) + (place,)
                        self.assertIs(is_chain(owners, deals, stamp, place, thing), thing in chains)

    def test_no_numbers(self):
        for thing in (6, 7, *NO_PLACES):
            with self.assertRaises(NoNumber):
                chain_of(OWNERS, DEALS, thing, 0)
            with self.assertRaises(NoNumber):
                is_chain(OWNERS, DEALS, thing, 0, (0,))
        for thing in (7, *NO_PLACES):
            with self.assertRaises(NoNumber):
                chain_of(OWNERS, DEALS, 0, thing)
            with self.assertRaises(NoNumber):
                is_chain(OWNERS, DEALS, 0, thing, (0,))
        with self.assertRaises(NoNumber):
            chain_of(OWNERS, (), 0, 0)

    def test_what_stands_further_to_the_left_first(self):
        for ask in (chain_of, lambda *told: is_chain(*told, None)):
            with self.assertRaises(NoOwners):
                ask(None, None, None, None)
            with self.assertRaises(NoDeals):
                ask(OWNERS, None, None, None)
            with self.assertRaises(NoNumber):
                ask(OWNERS, DEALS, None, None)


if __name__ == "__main__":
    unittest.main()
