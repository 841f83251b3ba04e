"""[20], [21], [22], [23]: profiles and sector expressions."""

import itertools
import unittest

from ledgerproof.sectors import belongs, distinguish, exactly, names_of, profile_of, profiles
from printed import MODEL, check_examples

EXAMPLES = """
>>> from ledgerproof.sectors import belongs, distinguish, exactly, names_of, profile_of, profiles
>>> profile_of(model, ("firm", "home"))
3
>>> names_of(model, 3)
('home', 'firm')
>>> profiles(model, ("or", ("sector", "home"), ("not", ("sector", "firm"))))
(0, 1, 3)
>>> belongs(model, 2, ("and", ("sector", "firm"), ("not", ("sector", "home"))))
True
>>> distinguish(model, ("sector", "home"), ("sector", "firm"))
1
>>> distinguish(model, ("not", ("or", ("sector", "home"), ("sector", "firm"))), exactly(model, 0)) is None
True
>>> exactly(model, 2)
('and', ('not', ('sector', 'home')), ('sector', 'firm'))
"""

ALL = ("all",)
NONE = ("none",)
HOME = ("sector", "home")
FIRM = ("sector", "firm")
BANK = ("sector", "bank")


def with_sectors(*names):
    return (names, ("cash",), (), (), ())


EMPTY = with_sectors()
ONE = with_sectors("home")
TWO = with_sectors("home", "firm")
THREE = with_sectors("home", "firm", "bank")
FOUR = with_sectors("home", "firm", "bank", "state")
MODELS = (EMPTY, ONE, TWO, THREE, FOUR)


class PrintedTest(unittest.TestCase):
    def test_examples_of_the_interface(self):
        check_examples(self, EXAMPLES, {"model": MODEL})


class ProfileTest(unittest.TestCase):
    def test_number_is_the_sum_of_the_powers_of_two(self):
        self.assertEqual(profile_of(EMPTY, ()), 0)
        self.assertEqual(profile_of(ONE, ()), 0)
        self.assertEqual(profile_of(ONE, ("home",)), 1)
        self.assertEqual(profile_of(TWO, ("firm",)), 2)
        self.assertEqual(profile_of(THREE, ("home",)), 1)
        self.assertEqual(profile_of(THREE, ("firm",)), 2)
        self.assertEqual(profile_of(THREE, ("bank",)), 4)
        self.assertEqual(profile_of(THREE, ("home", "bank")), 5)

    def test_names_in_every_order(self):
        for order in itertools.permutations(("home", "firm", "bank")):
            self.assertEqual(profile_of(THREE, order), 7)
        for order in itertools.permutations(("firm", "bank")):
            self.assertEqual(profile_of(THREE, order), 6)

    def test_names_stand_in_the_order_of_the_model(self):
        self.assertEqual(names_of(EMPTY, 0), ())
        self.assertEqual(names_of(THREE, 0), ())
        self.assertEqual(names_of(THREE, 5), ("home", "bank"))
        self.assertEqual(names_of(THREE, 7), ("home", "firm", "bank"))
        self.assertEqual(names_of(with_sectors("z", "a"), 3), ("z", "a"))

    def test_every_profile_there_and_back(self):
        for model in MODELS:
            for profile in range(2 ** len(model[0])):
                with self.subTest(sectors=model[0], profile=profile):
                    for order in itertools.permutations(names_of(model, profile)):
                        self.assertEqual(profile_of(model, order), profile)

    def test_different_profiles_have_different_names(self):
        for model in MODELS:
            found = {names_of(model, profile) for profile in range(2 ** len(model[0]))}
            self.assertEqual(len(found), 2 ** len(model[0]))


class BelongsTest(unittest.TestCase):
    def check(self, model, sector, expected):
        self.assertEqual(profiles(model, sector), expected)
        for profile in range(2 ** len(model[0])):
            self.assertIs(belongs(model, profile, sector), profile in expected)

    def test_all_and_none(self):
        for model in MODELS:
            self.check(model, ALL, tuple(range(2 ** len(model[0]))))
            self.check(model, NONE, ())

    def test_sector(self):
        self.check(ONE, HOME, (1,))
        self.check(TWO, HOME, (1, 3))
        self.check(TWO, FIRM, (2, 3))
        self.check(THREE, HOME, (1, 3, 5, 7))
        self.check(THREE, FIRM, (2, 3, 6, 7))
        self.check(THREE, BANK, (4, 5, 6, 7))

    def test_not(self):
        self.check(ONE, ("not", HOME), (0,))
        self.check(THREE, ("not", FIRM), (0, 1, 4, 5))
        self.check(TWO, ("not", ALL), ())
        self.check(TWO, ("not", NONE), (0, 1, 2, 3))
        self.check(TWO, ("not", ("not", HOME)), (1, 3))

    def test_and(self):
        self.check(TWO, ("and", HOME, FIRM), (3,))
        self.check(TWO, ("and", HOME, ALL), (1, 3))
        self.check(TWO, ("and", NONE, FIRM), ())
        self.check(TWO, ("and", FIRM, NONE), ())
        self.check(THREE, ("and", FIRM, BANK), (6, 7))

    def test_or(self):
        self.check(TWO, ("or", HOME, FIRM), (1, 2, 3))
        self.check(TWO, ("or", HOME, HOME), (1, 3))
        self.check(TWO, ("or", NONE, FIRM), (2, 3))
        self.check(TWO, ("or", FIRM, ALL), (0, 1, 2, 3))
        self.check(THREE, ("or", FIRM, BANK), (2, 3, 4, 5, 6, 7))

    def test_nested(self):
        self.check(THREE, ("and", ("or", HOME, FIRM), ("not", ("and", FIRM, BANK))), (1, 2, 3, 5))
        self.check(THREE, ("or", ("and", HOME, ("not", FIRM)), ("and", ("not", HOME), FIRM)), (1, 2, 5, 6))

    def test_without_sectors(self):
        self.check(EMPTY, ("or", NONE, ("not", NONE)), (0,))
        self.check(EMPTY, ("and", ALL, ("not", ALL)), ())

    def test_sectors_that_are_called_like_words_of_tuples(self):
        model = with_sectors("sector", "sum")
        self.check(model, ("sector", "sector"), (1, 3))
        self.check(model, ("not", ("sector", "sum")), (0, 1))

    def test_beyond_the_bounds(self):
        sector = ("none",)
        for _ in range(30):
            sector = ("or", sector, ("not", ("not", FIRM)))
        self.check(TWO, sector, (2, 3))
        self.check(FOUR, ("and", BANK, ("sector", "state")), (12, 13, 14, 15))

    def test_what_was_returned_is_passed_as_a_part(self):
        sector = ("or", exactly(THREE, 6), ("not", ("or", exactly(THREE, 1), ("not", exactly(THREE, 2)))))
        self.check(THREE, sector, (2, 6))


class DistinguishTest(unittest.TestCase):
    def check(self, model, first, second, expected):
        self.assertEqual(distinguish(model, first, second), expected)
        self.assertEqual(distinguish(model, second, first), expected)
        self.assertIsNot(distinguish(model, first, second), False)

    def test_the_least_profile(self):
        self.check(TWO, ALL, NONE, 0)
        self.check(TWO, HOME, FIRM, 1)
        self.check(TWO, FIRM, NONE, 2)
        self.check(TWO, ("or", HOME, FIRM), ("and", HOME, FIRM), 1)
        self.check(TWO, HOME, ("and", HOME, ("not", FIRM)), 3)
        self.check(THREE, ("not", HOME), ("and", ("not", HOME), ("not", BANK)), 4)
        self.check(EMPTY, ALL, NONE, 0)

    def test_none_where_both_mean_the_same(self):
        self.check(EMPTY, ALL, ("not", NONE), None)
        self.check(ONE, HOME, HOME, None)
        self.check(TWO, ("not", ("or", HOME, FIRM)), ("and", ("not", HOME), ("not", FIRM)), None)
        self.check(THREE, ("and", BANK, ("or", HOME, FIRM)), ("or", ("and", HOME, BANK), ("and", FIRM, BANK)), None)
        self.check(THREE, ("or", HOME, ("not", HOME)), ALL, None)

    def test_every_pair_of_profiles(self):
        for first in range(8):
            for second in range(8):
                expected = None if first == second else min(first, second)
                self.check(THREE, exactly(THREE, first), exactly(THREE, second), expected)


class ExactlyTest(unittest.TestCase):
    def test_without_sectors(self):
        self.assertEqual(exactly(EMPTY, 0), ("all",))

    def test_one_sector(self):
        self.assertEqual(exactly(ONE, 0), ("not", HOME))
        self.assertEqual(exactly(ONE, 1), HOME)

    def test_two_sectors(self):
        for profile in range(4):
            first = HOME if profile % 2 else ("not", HOME)
            second = FIRM if profile // 2 else ("not", FIRM)
            self.assertEqual(exactly(TWO, profile), ("and", first, second))

    def test_three_sectors_are_joined_from_the_left(self):
        for profile in range(8):
            first = HOME if profile in (1, 3, 5, 7) else ("not", HOME)
            second = FIRM if profile in (2, 3, 6, 7) else ("not", FIRM)
            third = BANK if profile >= 4 else ("not", BANK)
            self.assertEqual(exactly(THREE, profile), ("and", ("and", first, second), third))

    def test_exactly_this_profile_belongs(self):
        for model in MODELS:
            for profile in range(2 ** len(model[0])):
                with self.subTest(sectors=model[0], profile=profile):
                    self.assertEqual(profiles(model, exactly(model, profile)), (profile,))


if __name__ == "__main__":
    unittest.main()
