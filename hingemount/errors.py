"""What is refused: two families of errors under HingeError."""

from hingemount.writing import in_figures


class HingeError(ValueError):
    """Any refusal."""


class NoThing(HingeError):
    """Something handed in is none of what is asked for."""


class NotDone(HingeError):
    """What is asked for can't be done."""


class NoList(NoThing):
    """This is no list of sets."""


class NoStamp(NoThing):
    """This is no stamp of the list."""


class NoStamps(NoThing):
    """This is no tuple of stamps of the list."""


class NoSet(NoThing):
    """This is no number of a set."""


class NoSets(NoThing):
    """This is no rising tuple of numbers of sets."""


class NoNumber(NoThing):
    """This is no whole number that is let."""


class NoName(NoThing):
    """This is no name."""


class NoPrices(NoThing):
    """These are no prices."""


class NoFriends(NoThing):
    """These are no friends."""


class NoExchange(NoThing):
    """This is no exchange."""


class NoPaper(NoThing):
    """This is no paper of the friends."""


class NoOffers(NoThing):
    """These are no offers."""


class NoOwners(NoThing):
    """These are no owners."""


class NoDeals(NoThing):
    """These are no deals."""


class NoAlbums(NoThing):
    """These are no albums of one list."""


class NoWord(NoThing):
    """This is no word to sort by."""


class NoText(NoThing):
    """This is no text of an album."""


class NoRow(NoThing):
    """This is no row for a desk."""


class NoPrice(NotDone):
    """A place has no price in the year."""


class Twice(NotDone):
    """The name is there already."""


class Missing(NotDone):
    """The name isn't there."""


class Same(NotDone):
    """Two names are one."""


class NothingDone(NotDone):
    """There is no deed to undo."""


class Short(NotDone):
    """There are fewer stamps than are taken; by is how many lack."""

    def __init__(self, by):
        super().__init__(f"short by {in_figures(by)}")
        self.by = by
