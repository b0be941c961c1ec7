import itertools
import unittest

from soonerornot.books import check_book, check_saying
from soonerornot.orders import left_of, orders
from soonerornot.placings import keeps, keeps_book
from soonerornot.sides import beside, mirrored, renamed, renamed_book, together, turned, turned_book

SAYINGS = (((), None), ((), (0, 2)), (((0, 1),), (1, 0)), (((0, 1), (0, 2), (1, 2)), None), (((0, 2), (1, 2)), (2, 1)),
           (((0, 1),), (2, 0)), ((), (0, 2)))
BOOK = (3, SAYINGS)
OTHER = (3, (((), (1, 0)), (((0, 1),), None), ((), (0, 2))))
GREAT = 10 ** 30


class Turning(unittest.TestCase):
    def test_turned(self):
        self.assertEqual(turned(((), None)), ((), None))
        self.assertEqual(turned(((), (0, 2))), ((), (2, 0)))
        self.assertEqual(turned((((0, 1), (1, 2)), (2, 0))), (((0, 1), (1, 2)), (0, 2)))
        self.assertEqual(turned((((0, 1),), None)), (((0, 1),), None))

    def test_mirrored(self):
        self.assertEqual(mirrored(()), ())
        self.assertEqual(mirrored((7, -2, 0, GREAT)), (-7, 2, 0, -GREAT))
        self.assertIs(type(mirrored((1, 2))), tuple)

    def test_turned_book(self):
        self.assertEqual(turned_book((0, ())), (0, ()))
        self.assertEqual(turned_book((0, (((), None),))), (0, (((), None),)))
        self.assertEqual(turned_book((2, (((), (0, 1)), ((), (0, 1)), (((0, 1),), None)))),
                         (2, (((), (1, 0)), ((), (1, 0)), (((0, 1),), None))))
        self.assertEqual(turned_book(turned_book(BOOK)), BOOK)

    def test_what_holds(self):
        for placing in itertools.product((-4, 0, 5), repeat=3):
            for saying in SAYINGS:
                self.assertEqual(keeps(turned(saying), placing), keeps(saying, mirrored(placing)))
            self.assertEqual(keeps_book(turned_book(OTHER), placing), keeps_book(OTHER, mirrored(placing)))


class Renaming(unittest.TestCase):
    def test_renamed(self):
        self.assertEqual(renamed(((), None), ()), ((), None))
        self.assertEqual(renamed(((), (0, 2)), (5, 4, 3)), ((), (5, 3)))
        self.assertEqual(renamed((((0, 1),), (1, 0)), (1, 0)), (((0, 1),), (0, 1)))
        self.assertEqual(renamed((((0, 1), (0, 2), (1, 3)), None), (9, 2, 4, 0)), (((0, 2), (2, 9), (4, 9)), None))
        self.assertEqual(renamed((((0, 1), (2, 3)), (3, 0)), (7, 8, 1, 2)), (((1, 2), (7, 8)), (2, 7)))

    def test_names_may_be_a_list(self):
        self.assertEqual(renamed((((0, 1),), (1, 0)), [3, 2]), (((2, 3),), (2, 3)))

    def test_renamed_book(self):
        self.assertEqual(renamed_book((0, ()), 0, ()), (0, ()))
        self.assertEqual(renamed_book((0, (((), None),)), 4, ()), (4, (((), None),)))
        self.assertEqual(renamed_book((2, (((), (0, 1)), (((0, 1),), None), ((), (0, 1)))), 5, (4, 1)),
                         (5, (((), (4, 1)), (((1, 4),), None), ((), (4, 1)))))
        self.assertEqual(renamed_book(BOOK, 3, (0, 1, 2)), BOOK)

    def test_what_holds(self):
        for names in itertools.permutations(range(4), 3):
            check_book(renamed_book(BOOK, 4, names))
            for saying in SAYINGS:
                check_saying(4, renamed(saying, names))
                for placing in orders(4):
                    self.assertEqual(keeps(renamed(saying, names), placing), keeps(saying, left_of(placing, names)))


class Joining(unittest.TestCase):
    def test_beside(self):
        self.assertEqual(beside((0, ()), (0, ())), (0, ()))
        self.assertEqual(beside((2, (((), (1, 0)),)), (0, (((), None),))), (2, (((), (1, 0)), ((), None))))
        self.assertEqual(beside((0, (((), None),)), (2, (((), (1, 0)),))), (2, (((), None), ((), (1, 0)))))
        self.assertEqual(beside((1, ()), (2, (((), (1, 0)), (((0, 1),), None)))), (3, (((), (2, 1)), (((1, 2),), None))))
        self.assertEqual(beside((2, (((), (0, 1)),)), (2, (((), (0, 1)),))), (4, (((), (0, 1)), ((), (2, 3)))))

    def test_together(self):
        self.assertEqual(together((0, ()), (0, (((), None),))), (0, (((), None),)))
        self.assertEqual(together((2, (((), (0, 1)),)), (2, (((), (0, 1)), ((), (1, 0))))),
                         (2, (((), (0, 1)), ((), (0, 1)), ((), (1, 0)))))
        self.assertEqual(together(OTHER, BOOK), (3, OTHER[1] + BOOK[1]))

    def test_what_holds(self):
        one, other = (2, (((), (0, 1)),)), OTHER
        for placing in itertools.product(range(3), repeat=5):
            self.assertEqual(keeps_book(beside(one, other), placing),
                             keeps_book(one, placing[:2]) and keeps_book(other, placing[2:]))
        for placing in orders(3):
            self.assertEqual(keeps_book(together(OTHER, (3, SAYINGS[1:3])), placing),
                             keeps_book(OTHER, placing) and keeps_book((3, SAYINGS[1:3]), placing))

    def test_the_same_comes_again_and_what_was_passed_stays(self):
        for _ in range(2):
            self.assertEqual(beside(OTHER, BOOK), beside(OTHER, BOOK))
            self.assertEqual(together(OTHER, BOOK), together(OTHER, BOOK))
            self.assertEqual(renamed_book(OTHER, 9, (8, 0, 3)), renamed_book(OTHER, 9, (8, 0, 3)))
        self.assertEqual(OTHER, (3, (((), (1, 0)), (((0, 1),), None), ((), (0, 2)))))


if __name__ == "__main__":
    unittest.main()
