import inspect
import unittest

from hingemount import errors

OF_NOTHING = (
    "NoList NoStamp NoStamps NoSet NoSets NoNumber NoName NoPrices NoFriends NoExchange NoPaper "
    "NoOffers NoOwners NoDeals NoAlbums NoWord NoText NoRow"
).split()
OF_NOT_DONE = "NoPrice Twice Missing Same NothingDone".split()


class Families(unittest.TestCase):
    """Point 5, and the interface's row of errors."""

    def test_the_head(self):
        self.assertEqual(errors.HingeError.__bases__, (ValueError,))
        self.assertEqual(errors.NoThing.__bases__, (errors.HingeError,))
        self.assertEqual(errors.NotDone.__bases__, (errors.HingeError,))

    def test_straight_under_nothing(self):
        for name in OF_NOTHING:
            self.assertEqual(getattr(errors, name).__bases__, (errors.NoThing,), name)

    def test_straight_under_not_done(self):
        for name in [*OF_NOT_DONE, "Short"]:
            self.assertEqual(getattr(errors, name).__bases__, (errors.NotDone,), name)

    def test_no_class_besides(self):
        here = {
            name
            for name, thing in vars(errors).items()
            if inspect.isclass(thing)
        }
        self.assertEqual(here, {"HingeError", "NoThing", "NotDone", "Short", *OF_NOTHING, *OF_NOT_DONE})

    def test_each_is_defined_in_its_file(self):
        for name in ["HingeError", "NoThing", "NotDone", "Short", *OF_NOTHING, *OF_NOT_DONE]:
            self.assertEqual(getattr(errors, name).__module__, "hingemount.errors")
            self.assertEqual(getattr(errors, name).__name__, name)


class Making(unittest.TestCase):
    def test_made_with_a_text(self):
        for name in ["HingeError", "NoThing", "NotDone", *OF_NOTHING, *OF_NOT_DONE]:
            for text in ("", "why it is refused"):
                self.assertEqual(str(getattr(errors, name)(text)), text, name)

    def test_short_is_made_with_a_number(self):
        for by in (1, 3, 10 ** 39, 10 ** 40):
            self.assertEqual(errors.Short(by).by, by)
            self.assertEqual(errors.Short(by=by).by, by)
            self.assertIn(str(by), str(errors.Short(by)))

    def test_short_can_be_shown_however_many_lack(self):
        self.assertIn("1" + "0" * 6000, str(errors.Short(10 ** 6000)))

    def test_raised_and_caught_by_family(self):
        for name in OF_NOTHING:
            with self.assertRaises(errors.NoThing):
                raise getattr(errors, name)("why")
        for name in OF_NOT_DONE:
            with self.assertRaises(errors.NotDone):
                raise getattr(errors, name)("why")
        with self.assertRaises(ValueError) as caught:
            raise errors.Short(7)
        self.assertEqual(caught.exception.by, 7)


if __name__ == "__main__":
    unittest.main()
