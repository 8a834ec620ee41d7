import itertools
import random
import time
import unittest

from hingemount.albums import Album
from hingemount.errors import NoFriends
from hingemount.exchanges import exchanged, is_exchange
from hingemount.papers import is_paper, most_gaps, shown_by
from tests.friends import (
    WIDE, friends_by_chance, gives_of, is_even_lot, is_paper_by, most_by_levels, most_by_trying, places_of,
)
from tests.things import FORTY, NOTHINGS, ONE, state

BOOK = (("a", 1900, 3), ("b", 1900, 2))
ROW = (("a", 1900, 6),)


def having(*rows):
    """Friends of the list ROW: each row tells of each number how many hinged stamps there are."""
    return tuple(
        Album(ROW, "", tuple((0, number, 0) for number, many in enumerate(row) for _ in range(many))) for row in rows
    )


class Told(unittest.TestCase):
    """Points 62, 63 and 6: the exchange with most gives, and the paper that shows it."""

    def most(self, friends):
        """How many gives are told, where all else that is told holds, too."""
        told = most_gaps(friends)
        self.assertEqual([type(part) for part in told], [str, int, tuple, tuple])
        word, many, exchange, paper = told
        self.assertEqual(word, "most")
        self.assertIs(is_exchange(friends, exchange), True)
        self.assertTrue(is_even_lot(friends, exchange))
        self.assertEqual(len(exchange), many)
        self.assertIs(is_paper(friends, paper), True)
        self.assertTrue(is_paper_by(friends, paper))
        self.assertEqual(shown_by(friends, paper), many)
        return many

    def test_nothing_to_give(self):
        for many in (2, 3, 4):
            self.assertEqual(most_gaps((Album(ONE),) * many)[:3], ("most", 0, ()))
            self.assertEqual(self.most((Album(ONE),) * many), 0)
            # Doubles of what nobody lacks.
            self.assertEqual(self.most((Album(ONE, "", ((0, 0, 1),) * 3),) * many), 0)
        # Gaps that nobody fills, and a double that nobody gets anything for.
        self.assertEqual(self.most((Album(BOOK), Album(BOOK, "", ((0, 0, 0),)))), 0)
        self.assertEqual(self.most((Album(BOOK), Album(BOOK, "", ((0, 0, 0),) * 9))), 0)

    def test_two_friends_one_swap(self):
        friends = having((2,), (0, 2))
        self.assertEqual(self.most(friends), 2)
        self.assertEqual(most_gaps(friends)[2], ((0, 1, (0, 0, 0)), (1, 0, (0, 1, 0))))

    def test_two_friends_swap_as_many_as_the_one_who_has_less_can(self):
        self.assertEqual(self.most(having((2, 2, 2, 0), (0, 0, 0, 2))), 2)
        self.assertEqual(self.most(having((2, 2, 2, 0, 0), (0, 0, 0, 2, 2))), 4)
        self.assertEqual(self.most(having((2, 2, 2, 0, 0, 0), (0, 0, 0, 2, 2, 2))), 6)

    def test_a_ring_of_three_and_of_four(self):
        self.assertEqual(self.most(having((2, 1, 0), (0, 2, 1), (1, 0, 2))), 3)
        self.assertEqual(self.most(having((2, 0, 1), (1, 2, 0), (0, 1, 2))), 3)
        self.assertEqual(self.most(having((2, 1, 1, 0), (0, 2, 1, 1), (1, 0, 2, 1), (1, 1, 0, 2))), 4)
        # A link less, and there is no ring.
        self.assertEqual(self.most(having((2, 1, 1, 0), (0, 2, 1, 1), (1, 0, 2, 1), (1, 1, 0, 1))), 0)

    def test_a_swap_left_for_a_longer_ring(self):
        # The double of number 0 goes to friend 1 at once, or round by friend 2.
        friends = having((2, 0, 1), (0, 2, 0), (0, 1, 2))
        self.assertEqual(self.most(friends), 3)
        gives = ((0, 2, (0, 0, 0)), (1, 0, (0, 1, 0)), (2, 1, (0, 2, 0)))
        self.assertEqual(most_gaps(friends)[2], gives)
        for turned in itertools.permutations(friends):
            self.assertEqual(self.most(turned), 3)

    def test_rings_that_cross(self):
        # Two rings of three turn against one another: all six gives, in swaps as well as in rings.
        self.assertEqual(self.most(having((3, 0, 0), (0, 3, 0), (0, 0, 3))), 6)
        # One double more of number 0 lets friend 0 stand in both rings.
        ring = ((1, 2, 0, 1), (0, 1, 2, 1), (2, 0, 1, 0), (0, 0, 0, 2))
        self.assertEqual(self.most(having(*ring)), most_by_trying(having(*ring)))
        ring = ((1, 2, 0, 1), (0, 1, 2, 1), (3, 0, 1, 0), (0, 0, 0, 2))
        self.assertEqual(self.most(having(*ring)), most_by_trying(having(*ring)))

    def test_a_stamp_wanted_by_several_and_had_once(self):
        friends = having((2, 0, 0, 0), (0, 2, 1, 1), (0, 1, 2, 1), (0, 1, 1, 2))
        self.assertEqual(self.most(friends), 2)
        self.assertEqual(self.most(having((3, 0, 0, 0), (0, 2, 1, 1), (0, 1, 2, 1), (0, 1, 1, 2))), 4)
        for doubles in (4, 5, 9):
            rows = ((doubles, 0, 0, 0), (0, 2, 1, 1), (0, 1, 2, 1), (0, 1, 1, 2))
            self.assertEqual(self.most(having(*rows)), 6)

    def test_several_who_could_fill_one_gap(self):
        # Friend 3 lacks number 0 alone, so of those that have it one alone gives it.
        friends = having((2, 1, 1, 1), (2, 1, 1, 1), (2, 1, 1, 1), (0, 2, 1, 1))
        self.assertEqual(self.most(friends), 0)
        friends = having((2, 0, 1, 1), (2, 0, 1, 1), (2, 0, 1, 1), (0, 9, 1, 1))
        self.assertEqual(self.most(friends), 2)

    def test_a_hinged_and_a_whole_double_fill_the_same_gap_but_once(self):
        both = ((0, 0, 1), (0, 0, 1), (0, 0, 0))
        one = Album(ROW, "", both)
        other = Album(ROW, "", ((0, 1, 0),) * 4 + ((0, 2, 1),) * 4)
        self.assertEqual(self.most((one, other)), 2)
        third = Album(ROW, "", ((0, 3, 0),) * 2)
        # Each as many as they have doubles that others lack, but friend 1 gets two alone.
        self.assertEqual(self.most((one, other, third)), 5)
        fewer = Album(ROW, "", both[1:])
        self.assertEqual(self.most((fewer, other, third)), 4)

    def test_what_one_keeps_is_never_given(self):
        # Of one hinged and one whole stamp the hinged one is the double.
        other = Album(ROW, "", ((0, 1, 0),) * 2)
        self.assertEqual(self.most((Album(ROW, "", ((0, 0, 0), (0, 0, 1))), other)), 2)
        self.assertEqual(most_gaps((Album(ROW, "", ((0, 0, 0), (0, 0, 1))), other))[2][0], (0, 1, (0, 0, 0)))
        for stamp in ((0, 0, 0), (0, 0, 1)):
            self.assertEqual(self.most((Album(ROW, "", (stamp,)), other)), 0)

    def test_very_many_doubles(self):
        one = Album(ROW, "a")
        other = Album(ROW, "b")
        for number in range(3):
            one.put((0, number, 1), FORTY)
            other.put((0, number + 3, 0), FORTY)
        self.assertEqual(self.most((one, other)), 6)
        for _ in range(5):
            one.put((0, 0, 1), one.count_of((0, 0, 1)))
        self.assertEqual(self.most((one, other, Album(ROW))), 6)

    def test_one_album_twice(self):
        album = having((2, 0))[0]
        self.assertEqual(self.most((album, album)), 0)
        other = having((0, 2))[0]
        self.assertEqual(self.most((album, album, other, other)), 4)

    def test_behind_it_nothing_more_is_to_be_given(self):
        chance = random.Random(6)
        for _ in range(40):
            friends = friends_by_chance(chance, WIDE, chance.randint(2, 4), 0.5, 3)
            told = most_gaps(friends)
            gaps = sum(len(friend.gaps(at)) for friend in friends for at in range(4))
            behind = tuple(exchanged(friends, told[2]))
            self.assertEqual(sum(len(friend.gaps(at)) for friend in behind for at in range(4)), gaps - told[1])
            self.assertEqual(self.most(behind), 0)

    def test_small_friends_no_lot_of_gives_has_more(self):
        chance = random.Random(62)
        seen = []
        while len(seen) < 250:
            friends = friends_by_chance(chance, BOOK, chance.randint(2, 4), chance.choice((0.4, 0.6)), 2)
            if 2 <= len(gives_of(friends)) <= 9:
                best = most_by_trying(friends)
                self.assertEqual(self.most(friends), best)
                seen.append(best)
        for many in (0, 2, 3, 4):
            self.assertGreater(seen.count(many), 3, many)

    def test_as_many_as_by_trying_all_levels(self):
        chance = random.Random(63)
        books = ((("a", 1900, 6),), (("a", 1900, 1), ("b", 1900, 1)), BOOK, (("a", 1900, 4), ("b", 1900, 6)))
        for book in books:
            for _ in range(12):
                friends = friends_by_chance(chance, book, chance.randint(2, 4), chance.choice((0.3, 0.5, 0.7)), 2)
                self.assertEqual(self.most(friends), most_by_levels(friends))

    def test_in_another_order_as_many(self):
        chance = random.Random(64)
        for many in (2, 3, 4):
            for _ in range(10):
                friends = friends_by_chance(chance, WIDE[:2], many, 0.5, 2)
                best = self.most(friends)
                for turned in itertools.permutations(friends):
                    self.assertEqual(self.most(turned), best)

    def test_a_double_more_fills_no_fewer(self):
        chance = random.Random(65)
        risen = 0
        for _ in range(30):
            friends = friends_by_chance(chance, WIDE[:2], chance.randint(2, 4), 0.5, 2)
            best = self.most(friends)
            for at, friend in enumerate(friends):
                for stamp, _ in friend.all_of():
                    more = friend.twin()
                    more.put(stamp)
                    now = self.most((*friends[:at], more, *friends[at + 1:]))
                    self.assertGreaterEqual(now, best)
                    risen += now > best
        self.assertGreater(risen, 0)

    def test_four_friends_of_four_sets_of_six_soon(self):
        chance = random.Random(66)
        lots = [friends_by_chance(chance, WIDE, 4, share, most) for share in (0.3, 0.5, 0.7) for most in (1, 2, 9)]
        rows = [[], [], [], []]
        for turn, (at, number) in enumerate(places_of(WIDE)):
            for friend in ((turn,), (turn, turn + 1))[number % 2]:
                rows[friend % 4] += [(at, number, 0)] * 3 + [(at, number, 1)] * 3
        lots.append(tuple(Album(WIDE, "", tuple(row)) for row in rows))
        started = time.perf_counter()
        for friends in lots:
            self.most(friends)
        self.assertLess(time.perf_counter() - started, 20)
        self.assertEqual(most_by_levels(lots[-1]), self.most(lots[-1]))
        self.assertEqual(most_by_levels(lots[4]), self.most(lots[4]))


class Kept(unittest.TestCase):
    """Points 4 and 5: what is handed in stays, the same asked again has the same answer, and refusals."""

    def test_the_same_again_and_nothing_changed(self):
        friends = friends_by_chance(random.Random(4), WIDE, 4, 0.5, 2)
        before = [state(friend) for friend in friends]
        told = most_gaps(friends)
        self.assertEqual(most_gaps(friends), told)
        self.assertEqual(most_gaps(tuple(friend.twin() for friend in friends)), told)
        self.assertEqual(most_gaps(friends=friends), told)
        self.assertEqual([state(friend) for friend in friends], before)

    def test_no_friends(self):
        album = Album(ONE)
        odd = (None, 0, "", (), (album,), (album,) * 5, [album, album], (album, Album(BOOK)), (album, None), album)
        for thing in (*odd, *NOTHINGS):
            with self.assertRaises(NoFriends, msg=repr(thing)[:200]):
                most_gaps(thing)


if __name__ == "__main__":
    unittest.main()
