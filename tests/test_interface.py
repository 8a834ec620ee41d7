import inspect
import unittest

from hingemount import albums, bundles, deals, desk, errors, exchanges, lists, papers, sorting, texts, worths

FUNCTIONS = (
    (lists, "is_list", "(thing)"),
    (lists, "is_stamp", "(book, thing)"),
    (lists, "all_stamps", "(book)"),
    (lists, "places_many", "(book)"),
    (albums, "Album", "(book, name='', stamps=None)"),
    (albums, "joined", "(one, other)"),
    (albums, "parted", "(album, places)"),
    (albums, "parting", "(one, other)"),
    (errors, "Short", "(by)"),
    (worths, "worth_of", "(album, prices, stamp, year=2100)"),
    (worths, "worth_by", "(album, prices, year=2100)"),
    (deals, "owners_behind", "(owners, deals, many)"),
    (deals, "fallen", "(owners, deals, stamp)"),
    (deals, "owners_left", "(owners, deals, stamp)"),
    (deals, "chain_of", "(owners, deals, stamp, place)"),
    (deals, "is_chain", "(owners, deals, stamp, place, thing)"),
    (bundles, "fewest_for", "(album, place, offers)"),
    (bundles, "makes_whole", "(album, place, offers, thing)"),
    (exchanges, "is_exchange", "(friends, thing)"),
    (exchanges, "exchanged", "(friends, exchange)"),
    (exchanges, "rings_of", "(friends, exchange)"),
    (exchanges, "gains_by", "(friends, exchange, prices, year=2100)"),
    (exchanges, "is_fair", "(friends, exchange, prices, year=2100, most=0)"),
    (papers, "most_gaps", "(friends)"),
    (papers, "is_paper", "(friends, thing)"),
    (papers, "shown_by", "(friends, paper)"),
    (sorting, "sorted_by", "(word, albums, prices=None, back=False)"),
    (texts, "list_text", "(book)"),
    (texts, "album_text", "(album)"),
    (texts, "album_read", "(text)"),
    (desk, "Desk", "()"),
)

METHODS = (
    ("put", "(self, stamp, many=1)"),
    ("take", "(self, stamp, many=1)"),
    ("book", "(self)"),
    ("called", "(self)"),
    ("count_of", "(self, stamp)"),
    ("all_of", "(self)"),
    ("doubles", "(self)"),
    ("gaps", "(self, place)"),
    ("whole_sets", "(self)"),
    ("twin", "(self)"),
)


class Interface(unittest.TestCase):
    """Point 4, and the interface: names and order of arguments, and where each thing stands."""

    def test_functions_and_classes(self):
        for module, name, arguments in FUNCTIONS:
            thing = getattr(module, name)
            self.assertEqual(str(inspect.signature(thing)), arguments, name)
            self.assertEqual(thing.__module__, module.__name__, name)

    def test_methods_stand_in_the_class_itself(self):
        for name, arguments in METHODS:
            self.assertEqual(str(inspect.signature(vars(albums.Album)[name])), arguments, name)
        for name in ("__init__", "__len__", "__eq__", "__repr__", "__str__"):
            self.assertIn(name, vars(albums.Album))
        self.assertEqual(str(inspect.signature(vars(desk.Desk)["say"])), "(self, row)")


if __name__ == "__main__":
    unittest.main()
