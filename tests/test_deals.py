import unittest

from hingemount.deals import chain_of, fallen, is_chain, owners_behind, owners_left
from hingemount.errors import NoDeals, NoNumber, NoOwners
from tests.things import BOOK, NOTHINGS

OWNERS = (0, 1, 2, 0)
# The last deal has two moves; stamp 0 goes from 0 to 1, then to 5.
DEALS = (((0, 0, 1),), ((2, 2, 3), (3, 0, 3)), ((0, 1, 5), (1, 1, 0)))
BEHIND = ((0, 1, 2, 0), (1, 1, 2, 0), (1, 1, 3, 3), (5, 0, 3, 3))


def ask_all(owners, deals):
    """What each of the functions asked about these owners and deals."""
    return (
        lambda: owners_behind(owners, deals, 0),
        lambda: fallen(owners, deals, 0),
        lambda: owners_left(owners, deals, 0),
        lambda: chain_of(owners, deals, 0, 0),
        lambda: is_chain(owners, deals, 0, 0, (0,)),
    )


class Behind(unittest.TestCase):
    """Point 41: the owners behind so many deals."""

    def test_behind_none_some_and_all(self):
        for many, told in enumerate(BEHIND):
            self.assertEqual(owners_behind(OWNERS, DEALS, many), told)
            self.assertIs(type(owners_behind(OWNERS, DEALS, many)), tuple)

    def test_without_deals(self):
        self.assertEqual(owners_behind(OWNERS, (), 0), OWNERS)

    def test_back_and_forth(self):
        deals = tuple(((0, at % 2, 1 - at % 2),) for at in range(10))
        for many in range(11):
            self.assertEqual(owners_behind((0,), deals, many), (many % 2,))

    def test_by_names(self):
        self.assertEqual(owners_behind(many=2, deals=DEALS, owners=OWNERS), BEHIND[2])

    def test_no_number(self):
        for many in (-1, 4, 10 ** 39, None, (), (0,), "", "1", 1.0, *NOTHINGS):
            with self.assertRaises(NoNumber):
                owners_behind(OWNERS, DEALS, many)
        with self.assertRaises(NoNumber):
            owners_behind(OWNERS, (), 1)

    def test_what_stands_further_to_the_left_first(self):
        with self.assertRaises(NoOwners):
            owners_behind(None, None, None)
        with self.assertRaises(NoOwners):
            owners_behind((6,), DEALS, 0)
        with self.assertRaises(NoDeals):
            owners_behind(OWNERS, None, None)
        with self.assertRaises(NoDeals):
            owners_behind((0,), DEALS, 0)
        with self.assertRaises(NoNumber):
            owners_behind(OWNERS, DEALS, None)


class NoneAreOwners(unittest.TestCase):
    """Point 41: what owners are."""

    def bad(self, *things):
        for thing in things:
            for ask in ask_all(thing, ()):
                with self.assertRaises(NoOwners, msg=repr(thing)[:200]):
                    ask()

    def test_one_to_twelve(self):
        for many in range(1, 13):
            self.assertEqual(owners_behind((5,) * many, (), 0), (5,) * many)
        self.bad((), (0,) * 13, (0,) * 9000)
        owners = tuple(at % 6 for at in range(12))
        self.assertEqual(owners_behind(owners, (((11, 5, 0),),), 1), (*owners[:11], 0))

    def test_from_0_to_5(self):
        self.assertEqual(owners_behind((0, 1, 2, 3, 4, 5), (), 0), (0, 1, 2, 3, 4, 5))
        for odd in (-1, 6, 10 ** 39, True, False, None, "", "0", (), (0,), [], {}):
            self.bad((odd,), (odd, 0), (0, odd))

    def test_whatever_kind(self):
        self.bad(None, 0, 1, "", "0", [0], [0, 1], {0: 1}, BOOK, *NOTHINGS)


class NoneAreDeals(unittest.TestCase):
    """Point 41: what deals are."""

    def good(self, owners, *things):
        for thing in things:
            owners_behind(owners, thing, len(thing))

    def bad(self, owners, *things):
        for thing in things:
            for ask in ask_all(owners, thing):
                with self.assertRaises(NoDeals, msg=repr(thing)[:200]):
                    ask()

    def test_at_most_ten(self):
        there = tuple(((0, at % 2, 1 - at % 2),) for at in range(12))
        self.good((0,), *[there[:many] for many in range(11)])
        self.bad((0,), there[:11], there)

    def test_one_to_six_moves(self):
        owners = (0,) * 8
        moves = tuple((stamp, 0, 1) for stamp in range(8))
        self.good(owners, *[(moves[:many],) for many in range(1, 7)])
        self.bad(owners, (moves[:7],), (moves,), ((),), (moves[:1], ()))

    def test_moves_in_whatever_order(self):
        deal = ((2, 2, 3), (0, 0, 1), (1, 1, 0))
        self.assertEqual(owners_behind(OWNERS, (deal,), 1), (1, 0, 3, 0))

    def test_a_stamp_in_two_moves(self):
        self.bad(
            OWNERS,
            (((0, 0, 1), (0, 0, 1)),),
            (((0, 0, 1), (0, 0, 2)),),
            (((0, 0, 1), (0, 1, 2)),),
            (((0, 0, 1), (1, 1, 2), (0, 0, 3)),),
        )

    def test_giver_and_taker_alike(self):
        self.bad(OWNERS, (((0, 0, 0),),), (((1, 1, 1),),), (((0, 0, 1), (1, 1, 1)),))

    def test_not_the_givers_ahead_of_the_deal(self):
        self.bad(OWNERS, (((0, 1, 0),),), (((0, 1, 2),),), (((2, 2, 3),), ((2, 2, 4),)))
        # It gets there by this very deal, or by a later one.
        self.bad(OWNERS, (((0, 0, 1), (1, 0, 2)),), (((0, 1, 2),), ((0, 0, 1),)))
        self.good(OWNERS, (((0, 0, 1),), ((0, 1, 2),)))

    def test_bounds(self):
        self.good((0, 5), (((0, 0, 5), (1, 5, 0)),))
        self.bad((0, 5), (((-1, 5, 0),),), (((2, 0, 1),),), (((0, 0, 6),),), (((0, 0, -1),),))
        self.bad((0, 5), (((0, 6, 1),),), (((0, -1, 1),),), (((10 ** 39, 0, 1),),), (((-2, 0, 1),),))

    def test_other_kinds_within(self):
        for odd in (True, False, None, "", "0", (), (0,), [], [0], {}):
            self.bad((0, 1), (((odd, 0, 1),),), (((0, odd, 2),),), (((0, 0, odd),),), (((1, odd, 2),),))
            self.bad((0, 1), (((1, 1, odd),),), (((odd, 1, 2),),), (odd,), ((odd,),), (((0, 0, 1),), odd))

    def test_other_shapes(self):
        self.bad(OWNERS, (((0, 0),),), (((0, 0, 1, 1),),), ((0, 0, 1),), (0, 0, 1), ([(0, 0, 1)],), (([0, 0, 1],),))
        self.bad(OWNERS, [((0, 0, 1),)], [], {}, {((0, 0, 1),): 1}, ({(0, 0, 1): 1},), (((0, 0, 1),), ((1, 1, 2),), []))

    def test_whatever_kind(self):
        self.bad(OWNERS, None, 0, 1, "", *NOTHINGS)


if __name__ == "__main__":
    unittest.main()
