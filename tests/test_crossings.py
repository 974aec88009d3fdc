"""[35] Lots and their crossings."""

import random
import unittest
from itertools import combinations

from nomoreseen.crossings import are_crossings, crossings, free_lots, least_ones
from nomoreseen.errors import InvalidLots, InvalidSize
from tests.anything import caught, no_numbers, values


def every_lot(many):
    return [lot for size in range(many + 1) for lot in combinations(range(many), size)]


def least(lots):
    return tuple(sorted(lot for lot in set(lots) if not any(set(other) < set(lot) for other in lots)))


def slow_crossings(many, lots):
    return least([lot for lot in every_lot(many) if all(set(lot) & set(told) for told in lots)])


def slow_free(many, lots):
    free = [lot for lot in every_lot(many) if not any(set(told) <= set(lot) for told in lots)]
    return tuple(sorted(lot for lot in free if not any(set(lot) < set(other) for other in free)))


def random_lots(rng, many, most):
    return [tuple(n for n in range(many) if rng.random() < 0.4) for _ in range(rng.randrange(most))]


class Crossings(unittest.TestCase):
    def test_by_hand(self):
        lots = [(0, 1), (1, 2)]
        self.assertEqual(crossings(3, lots), ((0, 2), (1,)))
        self.assertEqual(free_lots(3, lots), ((0, 2), (1,)))
        self.assertEqual(least_ones(4, [(0, 1, 3), (1, 3), (2,), (1, 3)]), ((1, 3), (2,)))
        self.assertEqual(free_lots(4, [(0, 1, 3), (1, 3), (2,), (1, 3)]), ((0, 1), (0, 3)))
        self.assertEqual(crossings(4, [(0, 1, 3), (1, 3), (2,), (1, 3)]), ((1, 2), (2, 3)))

    def test_edges(self):
        for many in (0, 1, 5, 12):
            everything = tuple(range(many))
            self.assertEqual(crossings(many, ()), ((),))
            self.assertEqual(crossings(many, ((),)), ())
            self.assertEqual(free_lots(many, ()), (everything,))
            self.assertEqual(free_lots(many, ((),)), ())
            self.assertEqual(least_ones(many, ()), ())
            self.assertEqual(least_ones(many, ((), everything)), ((),))

    def test_small_ones_against_all_lots(self):
        rng = random.Random(35)
        for _ in range(300):
            many = rng.randrange(7)
            lots = random_lots(rng, many, 7)
            self.assertEqual(least_ones(many, lots), least(lots))
            self.assertEqual(crossings(many, lots), slow_crossings(many, lots))
            self.assertEqual(free_lots(many, lots), slow_free(many, lots))
            turned = [tuple(n for n in range(many) if n not in lot) for lot in crossings(many, lots)]
            self.assertEqual(free_lots(many, lots), tuple(sorted(turned)))

    def test_crossings_of_crossings(self):
        rng = random.Random(36)
        for _ in range(60):
            many = rng.randrange(13)
            lots = random_lots(rng, many, 41)
            crossed = crossings(many, lots)
            self.assertEqual(crossings(many, crossed), least_ones(many, lots))
            self.assertTrue(are_crossings(many, crossed, least_ones(many, lots)))
            self.assertTrue(are_crossings(many, least_ones(many, lots), crossed))
            for _ in range(20):
                lot = set(n for n in range(many) if rng.random() < 0.5)
                hits = all(lot & set(told) for told in lots)
                self.assertEqual(hits, any(set(told) <= lot for told in crossed))

    def test_many_lots(self):
        lots = tuple(combinations(range(12), 6))
        self.assertEqual(crossings(12, lots), tuple(combinations(range(12), 7)))

    def test_lists_stay_as_they_are(self):
        lots = [[2], [0, 1], [0, 1], [0, 1, 2]]
        for function in (least_ones, crossings, free_lots):
            first = function(3, lots)
            self.assertEqual(first, function(many=3, lots=((2,), (0, 1), (0, 1), (0, 1, 2))))
            self.assertEqual(lots, [[2], [0, 1], [0, 1], [0, 1, 2]])
            self.assertIsInstance(first, tuple)
            self.assertTrue(all(type(lot) is tuple for lot in first))
            first_lots = list(lots)
            lots.reverse()
            self.assertEqual(first, function(3, lots))
            lots[:] = first_lots

    def test_wrong_many_is_first(self):
        for function in (least_ones, crossings, free_lots):
            for many in no_numbers(12):
                self.assertEqual(caught(InvalidSize, function, many, None), "many")
                self.assertEqual(caught(InvalidSize, function, many, ((),)), "many")
        for many in no_numbers(12):
            self.assertEqual(caught(InvalidSize, are_crossings, many, (), ((),)), "many")
            self.assertEqual(caught(InvalidSize, are_crossings, many, None, 3), "many")

    def test_wrong_lots(self):
        for function in (least_ones, crossings, free_lots):
            for value in values():
                if not isinstance(value, (list, tuple)):
                    self.assertEqual(caught(InvalidLots, function, 3, value), -1)
                    self.assertEqual(caught(InvalidLots, function, 3, [(0,), value, None]), 1)
            for lot in [(3,), (1, 0), (0, 0), (True,), (-1,), ("0",), ((0,),), (0, None), [2, 1], (0, 1, 3)]:
                self.assertEqual(caught(InvalidLots, function, 3, [(), [0, 2], lot, lot]), 2)
            self.assertEqual(caught(InvalidLots, function, 0, [(0,)]), 0)

    def test_are_crossings(self):
        self.assertIs(are_crossings(3, ((0, 1), (1, 2)), ((0, 2), (1,))), True)
        self.assertIs(are_crossings(3, ((0, 2), (1,)), ((0, 1), (1, 2))), True)
        self.assertIs(are_crossings(3, (), ((),)), True)
        self.assertIs(are_crossings(0, ((),), ()), True)
        self.assertIs(are_crossings(3, (), ()), False)
        self.assertIs(are_crossings(3, ((),), ((),)), False)
        for one, other in [
            (((1, 2), (0, 1)), ((0, 2), (1,))), (((0, 1), (1, 2)), ((1,), (0, 2))), ([(0, 1), (1, 2)], ((0, 2), (1,))),
            (([0, 1], (1, 2)), ((0, 2), (1,))), (((0, 1), (1, 2)), ((0, 2),)), (((0, 1), (1, 2)), ((0, 2), (True,))),
            (((0, 1), (0, 1), (1, 2)), ((0, 2), (1,))), (((0, 1), (0, 1, 2), (1, 2)), ((0, 2), (1,))),
            (((0, 1), (1, 3)), ((0, 3), (1,))),
        ]:
            self.assertIs(are_crossings(3, one, other), False)

    def test_are_crossings_of_any_values(self):
        for one in values():
            for other in values():
                wanted = type(one) is tuple and type(other) is tuple and (one, other) in [((), ((),)), (((),), ())]
                self.assertIs(are_crossings(3, one, other), wanted)


if __name__ == "__main__":
    unittest.main()
