import itertools
import unittest

from purseborder.pairs import at_or_above, both, either, holds, least_pairs

GRID = [(x, y) for x in range(3) for y in range(3)]
WIDE = [(x, y) for x in range(5) for y in range(5)]
GREAT = 10 ** 399


def lists_of_grid():
    for many in range(len(GRID) + 1):
        for chosen in itertools.combinations(GRID, many):
            yield list(chosen)


def above(pair, other):
    return not (pair[0] < other[0] or pair[1] < other[1])


def held(pairs, wide):
    return [pair for pair in wide if any(above(pair, own) for own in pairs)]


def least_otherwise(pairs):
    return tuple(sorted({pair for pair in pairs if not any(above(pair, o) and o != pair for o in pairs)}))


def borders_of_grid():
    return sorted({least_otherwise(pairs) for pairs in lists_of_grid()})


class AtOrAbove(unittest.TestCase):
    def test_near_one_another(self):
        for pair in WIDE:
            for other in WIDE:
                self.assertIs(at_or_above(pair, other), above(pair, other))

    def test_edges(self):
        self.assertIs(at_or_above((2, 3), (2, 3)), True)
        self.assertIs(at_or_above((2, 3), (2, 2)), True)
        self.assertIs(at_or_above((2, 3), (1, 4)), False)
        self.assertIs(at_or_above((1, 4), (2, 3)), False)
        self.assertIs(at_or_above((GREAT, GREAT), (GREAT, GREAT - 1)), True)
        self.assertIs(at_or_above((GREAT, GREAT - 1), (GREAT, GREAT)), False)


class LeastPairs(unittest.TestCase):
    def test_examples(self):
        self.assertEqual(least_pairs([]), ())
        self.assertEqual(least_pairs([(4, 7)]), ((4, 7),))
        self.assertEqual(least_pairs([(4, 7), (4, 7), (4, 7)]), ((4, 7),))
        self.assertEqual(least_pairs([(3, 0), (1, 1), (0, 3), (2, 2), (1, 1), (3, 3)]), ((0, 3), (1, 1), (3, 0)))
        self.assertEqual(least_pairs([(0, 0), (5, 0), (0, 5)]), ((0, 0),))
        self.assertEqual(least_pairs([(2, 5), (2, 4), (3, 4)]), ((2, 4),))

    def test_great_numbers(self):
        pairs = [(GREAT, 0), (0, GREAT), (GREAT, 1), (GREAT - 1, 1), (1, GREAT)]
        self.assertEqual(least_pairs(pairs), ((0, GREAT), (GREAT - 1, 1), (GREAT, 0)))

    def test_all_lists_of_a_small_grid(self):
        for pairs in lists_of_grid():
            expected = least_otherwise(pairs)
            self.assertEqual(least_pairs(pairs), expected)
            self.assertEqual(least_pairs(pairs[::-1] + pairs), expected)

    def test_a_tuple_is_told_and_the_list_stays(self):
        pairs = [(2, 2), (1, 3), (2, 2), (0, 9), (5, 5)]
        told = least_pairs(pairs)
        self.assertIs(type(told), tuple)
        self.assertEqual(pairs, [(2, 2), (1, 3), (2, 2), (0, 9), (5, 5)])
        pairs.clear()
        self.assertEqual(told, ((0, 9), (1, 3), (2, 2)))

    def test_a_long_list(self):
        pairs = [(k, 1999 - k) for k in range(2000)]
        self.assertEqual(least_pairs(pairs[::-1]), tuple(pairs))


class Holds(unittest.TestCase):
    def test_examples(self):
        self.assertIs(holds((), (0, 0)), False)
        self.assertIs(holds((), (GREAT, GREAT)), False)
        self.assertIs(holds(((0, 0),), (0, 0)), True)
        self.assertIs(holds(((1, 3), (3, 1)), (2, 2)), False)
        self.assertIs(holds(((1, 3), (3, 1)), (1, 3)), True)
        self.assertIs(holds(((1, 3), (3, 1)), (3, 1)), True)
        self.assertIs(holds(((1, 3), (3, 1)), (9, 0)), False)
        self.assertIs(holds(((GREAT, 0),), (GREAT - 1, GREAT)), False)
        self.assertIs(holds(((GREAT, 0),), (GREAT, 0)), True)

    def test_all_borders_of_a_small_grid(self):
        for border in borders_of_grid():
            inside = held(border, WIDE)
            for pair in WIDE:
                self.assertIs(holds(border, pair), pair in inside)


class BothAndEither(unittest.TestCase):
    def test_examples(self):
        one = ((0, 4), (2, 2), (5, 0))
        other = ((1, 3), (3, 1))
        self.assertEqual(both(one, other), ((1, 4), (2, 3), (3, 2), (5, 1)))
        self.assertEqual(either(one, other), ((0, 4), (1, 3), (2, 2), (3, 1), (5, 0)))

    def test_borders_without_pairs_and_with_one(self):
        border = ((0, 4), (2, 2))
        for asked, expected in ((both, ()), (either, border)):
            self.assertEqual(asked((), border), expected)
            self.assertEqual(asked(border, ()), expected)
            self.assertEqual(asked((), ()), ())
        self.assertEqual(both(((0, 0),), border), border)
        self.assertEqual(either(((0, 0),), border), ((0, 0),))
        self.assertEqual(both(((1, 2),), ((2, 1),)), ((2, 2),))
        self.assertEqual(either(((1, 2),), ((2, 1),)), ((1, 2), (2, 1)))
        self.assertEqual(both(border, border), border)
        self.assertEqual(either(border, border), border)

    def test_great_numbers(self):
        self.assertEqual(both(((GREAT, 0),), ((0, GREAT),)), ((GREAT, GREAT),))
        self.assertEqual(either(((GREAT, 0),), ((0, GREAT),)), ((0, GREAT), (GREAT, 0)))
        self.assertEqual(both(((GREAT, 0),), ((GREAT - 1, 0),)), ((GREAT, 0),))
        self.assertEqual(either(((GREAT, 0),), ((GREAT - 1, 0),)), ((GREAT - 1, 0),))

    def test_all_borders_of_a_small_grid(self):
        for one in borders_of_grid():
            for other in borders_of_grid():
                shared = [pair for pair in held(one, WIDE) if pair in held(other, WIDE)]
                self.assertEqual(both(one, other), least_otherwise(shared))
                self.assertEqual(either(one, other), least_otherwise(held(one + other, WIDE)))
                self.assertIs(type(both(one, other)), tuple)
                self.assertIs(type(either(one, other)), tuple)

    def test_long_borders(self):
        one = tuple((2 * k, 4000 - 2 * k) for k in range(2000))
        other = tuple((2 * k + 1, 4001 - 2 * k) for k in range(2000))
        self.assertEqual(both(one, other)[:3], ((1, 4001), (3, 3999), (5, 3997)))
        self.assertEqual(len(both(one, other)), 2000)
        self.assertEqual(either(one, other), one)


if __name__ == "__main__":
    unittest.main()
