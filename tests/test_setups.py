import itertools
import unittest

from parlourday.errors import BadSetup
from parlourday.setups import all_comers, is_seats, is_setup

from tests.plain_parlour import (
    ANY, EAGER, GREAT, HEARING, LAZY, NO_SEATS, NO_SETUPS, SETUP, UNFAIR, changed_at, comers_of, some_seats,
    some_setups,
)


class Setups(unittest.TestCase):
    def test_right_ones(self):
        for setup in [SETUP, GREAT, *some_setups(91, 300)]:
            self.assertIs(is_setup(setup), True)
        self.assertIs(is_setup(thing=SETUP), True)

    def test_each_bound(self):
        parts = [
            ((0,), [2, 3, 4]), ((1,), [(1,), (2,), (1, 2)]), ((2, 0), [1, 2]), ((2, 1), [0, 1, 2]), ((3, 0), [0, 1]),
            ((3, 1), [0, 1, 2]), ((4,), [(1,), (4,), (1, 4), (3, 4)]), ((5,), [1, 2, 3]),
            *[((6, place), [0, 1, 5]) for place in range(4)],
        ]
        for path, rights in parts:
            for part in rights:
                with self.subTest(path=path, part=part):
                    self.assertIs(is_setup(changed_at(SETUP, path, part)), True)
        self.assertIs(is_setup((1, (1,), (1, 0), (0, 0), (1,), 1, (0, 0, 0, 0))), True)
        self.assertIs(is_setup((4, (3, 4), (2, 2), (1, 2), (3, 4), 3, (5, 5, 5, 5))), True)
        self.assertIs(is_setup((1, (1, 2), (1, 0), (0, 0), (1,), 1, (0, 0, 0, 0))), False)

    def test_other_objects(self):
        for thing in NO_SETUPS:
            with self.subTest(thing=str(thing)):
                self.assertIs(is_setup(thing), False)


class SeatRules(unittest.TestCase):
    def test_right_ones(self):
        for rule in [LAZY, EAGER, UNFAIR, HEARING, EAGER * 3, *some_seats(92, 200), *some_seats(93, 100, deaf=False)]:
            self.assertIs(is_seats(rule), True)
        for low, high in itertools.combinations_with_replacement(range(10), 2):
            for place in [1, 2, 3, 4]:
                self.assertIs(is_seats(thing=(changed_at(EAGER[0], (place,), (low, high)),)), True)
        for mood, after, deed in itertools.product(range(3), range(3), ["group", "single", "go"]):
            self.assertIs(is_seats(((mood, ANY, ANY, ANY, ANY, deed, after),)), True)

    def test_other_objects(self):
        for thing in NO_SEATS:
            with self.subTest(thing=str(thing)):
                self.assertIs(is_seats(thing), False)


class Comers(unittest.TestCase):
    def test_by_hand(self):
        self.assertEqual(all_comers(SETUP), [((), 0), ((1,), 0), ((2,), 0)])
        self.assertEqual(all_comers(changed_at(SETUP, (3,), (0, 0))), [((), 0)])
        self.assertEqual(all_comers(changed_at(SETUP, (3,), (0, 2))), [((), 0), ((), 1), ((), 2)])
        one = changed_at(changed_at(SETUP, (3,), (1, 1)), (1,), (2,))
        self.assertEqual(all_comers(setup=one), [((), 0), ((), 1), ((2,), 0), ((2,), 1)])

    def test_all_kinds_of_setups(self):
        for sizes, groups, singles in itertools.product([(1,), (2,), (1, 2), (1, 4), (3, 4)], [0, 1], [0, 1, 2]):
            setup = (4, sizes, (1, 0), (groups, singles), (1,), 1, (0, 0, 0, 0))
            self.assertEqual(all_comers(setup), comers_of(setup))

    def test_errors(self):
        for thing in NO_SETUPS:
            with self.subTest(thing=str(thing)), self.assertRaises(BadSetup):
                all_comers(thing)


if __name__ == "__main__":
    unittest.main()
