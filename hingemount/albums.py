"""Albums: how many of each stamp of a list there are."""

from hingemount.errors import NoList, NoName, NoNumber, NoSet, NoSets, NoStamp, NoStamps, Short
from hingemount.kinds import is_letters, is_rising_within, is_tuple, is_whole_from
from hingemount.lists import HINGED, WHOLE, all_stamps, is_list, is_set_number, is_stamp
from hingemount.writing import album_rows, in_figures


def is_stamps(book, thing):
    return isinstance(thing, tuple) and all([is_stamp(book, part) for part in thing])


class Album:
    """Stamps of one list, each with how many there are."""

    def __init__(self, book, name="", stamps=None):
        if not is_list(book):
            raise NoList("no list of sets")
        if not is_letters(name, 0, 8):
            raise NoName("no name of at most eight letters from a to z")
        if stamps is not None and not is_stamps(book, stamps):
            raise NoStamps("no tuple of stamps of the list")
        self._book = book
        self._name = name
        # Only stamps that are there have a count, so that == and len can go by it.
        self._many = {}
        for stamp in stamps or ():
            self._many[stamp] = self._many.get(stamp, 0) + 1

    def put(self, stamp, many=1):
        self._check_some(stamp, many)
        self._many[stamp] = self.count_of(stamp) + many

    def take(self, stamp, many=1):
        self._check_some(stamp, many)
        left = self.count_of(stamp) - many
        if left < 0:
            raise Short(-left)
        if left == 0:
            del self._many[stamp]
        else:
            self._many[stamp] = left

    def _check_some(self, stamp, many):
        self._check_stamp(stamp)
        if not is_whole_from(many, 1):
            raise NoNumber("no whole number from 1 on")

    def _check_stamp(self, stamp):
        if not is_stamp(self._book, stamp):
            raise NoStamp("no stamp of the list")

    def book(self):
        return self._book

    def called(self):
        return self._name

    def count_of(self, stamp):
        self._check_stamp(stamp)
        return self._many.get(stamp, 0)

    def all_of(self):
        """Tell the stamps that are there, rising, as tuples (stamp, many)."""
        return sorted(self._many.items())

    def gaps(self, place):
        """Tell the numbers of which the set at this place has no stamp."""
        if not is_set_number(self._book, place):
            raise NoSet("no number of a set")
        return [number for number in range(self._book[place][2]) if not self._fills(place, number)]

    def _fills(self, at, number):
        return (at, number, HINGED) in self._many or (at, number, WHOLE) in self._many

    def doubles(self):
        """Tell what is beyond one stamp of each place, the whole one first kept."""
        told = []
        for stamp, many in self.all_of():
            spare = many - 1 if self._keeps(stamp) else many
            if spare > 0:
                told.append((stamp, spare))
        return told

    def _keeps(self, stamp):
        """Tell whether the one kept of a place is of this grade; the stamp is there."""
        at, number, grade = stamp
        return grade == WHOLE or (at, number, WHOLE) not in self._many

    def whole_sets(self):
        return [at for at in range(len(self._book)) if not self.gaps(at)]

    def twin(self):
        return filled(self._book, self._name, self.all_of())

    def __len__(self):
        return len(self._many)

    def __eq__(self, other):
        return isinstance(other, Album) and self._book == other._book and self._many == other._many

    def __repr__(self):
        return f"Album({self._name}, {in_figures(sum(list(self._many.values())))} stamps)"

    def __str__(self):
        return "\n".join(album_rows(self._name, self._book, self.all_of()))


def filled(book, name, counts):
    """Make an album of tuples (stamp, many), which may be too many to list one by one."""
    album = Album(book, name)
    for stamp, many in counts:
        album.put(stamp, many)
    return album


def joined(one, other):
    both = one.twin()
    for stamp, many in other.all_of():
        both.put(stamp, many)
    return both


def parted(album, places):
    """Tell an album of these sets' stamps, and one of all others."""
    if not is_rising_within(places, 0, len(album.book()) - 1):
        raise NoSets("no rising tuple of numbers of sets")
    inside = [(stamp, many) for stamp, many in album.all_of() if stamp[0] in places]
    outside = [(stamp, many) for stamp, many in album.all_of() if stamp[0] not in places]
    return filled(album.book(), album.called(), inside), filled(album.book(), album.called(), outside)


def parting(one, other):
    """Tell of which stamps the two have unlike counts, as tuples (stamp, one, other)."""
    counts = [(stamp, one.count_of(stamp), other.count_of(stamp)) for stamp in all_stamps(one.book())]
    return [(stamp, mine, yours) for stamp, mine, yours in counts if mine != yours]


def is_albums(thing, fewest, most):
    """Tell whether a thing is a tuple of so many albums of one list."""
    if not is_tuple(thing, fewest, most) or not all([isinstance(part, Album) for part in thing]):
        return False
    return all([part.book() == thing[0].book() for part in thing])


def stamps_many(album):
    """Tell how many stamps an album has, each as often as it is there."""
    return sum([many for _, many in album.all_of()])


def doubles_many(album):
    """Tell how many doubles an album has in all."""
    return sum([many for _, many in album.doubles()])


def lacked_by(album):
    """Tell the places of which an album has no stamp, rising."""
    return [(at, number) for at in range(len(album.book())) for number in album.gaps(at)]
