"""[25] Webs, and the bounds at which they part."""

import random
import unittest
from itertools import product
from math import lcm

from nomoreseen.errors import InvalidSize, InvalidWeb
from nomoreseen.webs import bounds_hold, evened, is_parted, need_web, parted_bounds, parting_way
from tests.anything import caught, no_numbers, values

EVEN = (1, ((0, 2, 2, 0),))
ODD = (1, ((0, 1, 2, 0),))
# Both sums grow by 4 round the ring, and differ on half of it.
HALF = (2, ((0, 1, 3, 1), (1, 3, 1, 0)))


def slow_parts(web, most):
    """Which bounds up to the most part: all ways are gone."""
    parts = [False] * (most + 1)
    todo = [(0, 0, 0)]
    met = set(todo)
    while todo:
        level, first, second = todo.pop()
        for start, one, other, end in web[1]:
            if start == level:
                sums = first + one, second + other
                for bound in range(max(first, second, min(sums)), min(max(sums), most + 1)):
                    parts[bound] = True
                place = (end,) + sums
                if max(sums) <= most and place not in met:
                    met.add(place)
                    todo.append(place)
    return parts


def slow_way(web, bound):
    """The least of the shortest parting ways, by trying all rows of few steps."""
    for length in range(1, 5):
        for way in product(web[1], repeat=length):
            level, first, second = 0, 0, 0
            for at, (start, one, other, end) in enumerate(way):
                if start != level:
                    break
                level, first, second = end, first + one, second + other
                if at == length - 1 and (first <= bound) != (second <= bound):
                    return way
                if max(first, second) > bound:
                    break
    return None


def random_web(rng, most_levels=4, most_steps=12):
    levels = rng.randint(1, most_levels)
    heights = [rng.randrange(4) for _ in range(levels)]
    steps = set()
    is_even = rng.random() < 0.5
    for _ in range(rng.randrange(most_steps + 1)):
        start, end, one = rng.randrange(levels), rng.randrange(levels), rng.randint(1, 4)
        other = one + heights[end] - heights[start] if is_even else rng.randint(1, 4)
        if 1 <= other <= 4:
            steps.add((start, one, other, end))
    return (levels, tuple(sorted(steps)))


def told(pair, bound):
    ahead, again = pair
    return ahead[bound] if bound < len(ahead) else again[(bound - len(ahead)) % len(again)]


class Webs(unittest.TestCase):
    def test_need_web(self):
        for levels in (1, 2, 3, 4):
            web = (levels, ((0, 1, 4, levels - 1),))
            self.assertEqual(need_web([levels, [[0, 1, 4, levels - 1]]]), web)
            self.assertEqual(need_web(value=web), web)
        self.assertEqual(need_web([2, []]), (2, ()))
        steps = [[0, one, other, 0] for one in (1, 2, 3, 4) for other in (1, 2, 3)]
        self.assertEqual(need_web((1, steps)), (1, tuple(map(tuple, steps))))
        self.assertTrue(all(type(step) is tuple for step in need_web((1, steps))[1]))

    def test_no_webs(self):
        steps = [[0, one, other, 0] for one in (1, 2, 3, 4) for other in (1, 2, 3, 4)]
        for value in [
            (0, ()), (5, ()), (True, ()), ("1", ()), (None, ()), (-1, ()), (1,), (1, (), ()), (1, None), (1, "x"),
            (1, steps), (1, steps[:13]), (5, ((9, 9, 9, 9),)), (1, {}), ((), 1),
        ]:
            for call in (need_web, parted_bounds):
                self.assertEqual(caught(InvalidWeb, call, value), -1)
        for value in values():
            if value not in [(1, ((0, 1, 1, 0),)), (2, [[0, 1, 1, 5]])]:
                self.assertEqual(caught(InvalidWeb, need_web, value), -1)
        good = [(0, 1, 1, 0), (0, 1, 1, 1), (0, 1, 2, 0)]
        for step in values() + [
            (0, 1, 2, 2), (2, 1, 1, 0), (0, 0, 1, 0), (0, 1, 5, 0), (0, 5, 1, 0), (0, 1, 0, 1), (0, True, 1, 0),
            (0, 1, 1, 0, 0), (1, 1, 1), (1, 1, 1, -1), (1, 0, 1, 0), (1, 1, 0, 0), (1, 5, 1, 0), (1, 1, 5, 0), (1, False, 1, 0), (0, 1, 2, 0), (0, 1, 1, 1), (0, 1, 1, 0), (False, 4, 4, 0),
        ]:
            self.assertEqual(caught(InvalidWeb, need_web, (2, good + [step, None])), 3)
        self.assertEqual(caught(InvalidWeb, need_web, (2, good[::-1])), 1)

    def test_wrong_web_is_first(self):
        for call in (lambda web: is_parted(web, None), lambda web: parting_way(web, -1), lambda web: bounds_hold(web, 3)):
            self.assertEqual(caught(InvalidWeb, call, (1, ((0, 1, 1, 1),))), 0)
            self.assertEqual(caught(InvalidWeb, call, 7), -1)

    def test_by_hand(self):
        self.assertEqual(parted_bounds((3, ())), ((), (False,)))
        self.assertEqual(parted_bounds(EVEN), ((), (False,)))
        self.assertEqual(parted_bounds(ODD), ((False,), (True,)))
        self.assertEqual(parted_bounds((1, ((0, 3, 4, 0),))), ((False,) * 3 + (True, False, False, True, True, False), (True,)))
        self.assertEqual(parted_bounds(HALF), ((), (False, True, True, False)))
        self.assertEqual(parted_bounds((2, ((0, 2, 4, 1),))), ((False, False, True, True), (False,)))
        # An uneven step to which nobody comes parts nothing.
        self.assertEqual(parted_bounds((2, ((0, 2, 2, 0), (1, 1, 2, 0)))), ((), (False,)))

    def test_bounds_against_all_ways(self):
        rng = random.Random(25)
        for _ in range(400):
            web = random_web(rng)
            pair = parted_bounds([web[0], list(map(list, web[1]))])
            most = min(len(pair[0]) + 2 * len(pair[1]) + 25, 120)
            self.assertEqual([told(pair, bound) for bound in range(most + 1)], slow_parts(web, most), web)
            for bound in (0, 1, 5, most):
                self.assertIs(is_parted(web, bound), told(pair, bound))
            big = rng.randrange(10 ** 17, 10 ** 18)
            for bound in (big, 10 ** 18):
                self.assertIs(is_parted(web=web, bound=bound), told(pair, bound))

    def test_slow_rings(self):
        # Round these rings the sums differ by one, though they are long.
        web = (4, ((0, 4, 4, 1), (1, 4, 4, 2), (2, 4, 4, 3), (3, 4, 3, 0)))
        pair = parted_bounds(web)
        self.assertEqual([told(pair, bound) for bound in range(300)], slow_parts(web, 299))
        self.assertEqual(pair[1], (True,))
        self.assertIs(is_parted(web, 10 ** 18), True)

    def test_single_rings(self):
        # Where there is one way alone, a ring on which the gap comes back now and then parts late.
        rng = random.Random(31)
        for _ in range(400):
            levels = rng.randint(1, 4)
            steps = [(at, rng.randint(1, 4), rng.randint(1, 4), (at + 1) % levels) for at in range(levels)]
            if levels > 1 and rng.random() < 0.3:
                steps[-1] = steps[-1][:3] + (1,)
            pair = parted_bounds((levels, steps))
            self.assertEqual([told(pair, bound) for bound in range(130)], slow_parts((levels, steps), 129), steps)

    def test_short_as_can_be(self):
        rng = random.Random(26)
        for _ in range(100):
            ahead, again = parted_bounds(random_web(rng))
            if ahead:
                self.assertNotEqual(ahead[-1], again[-1])
            for many in range(1, len(again)):
                if len(again) % many == 0:
                    self.assertNotEqual(again, again[:many] * (len(again) // many))

    def test_parts_never_exactly_if_reached_steps_are_even(self):
        rng = random.Random(27)
        for _ in range(200):
            web = random_web(rng, most_steps=5)
            reached = {0}
            for _ in range(4):
                reached |= {end for start, _, _, end in web[1] if start in reached}
            is_even = all(one == other for start, one, other, _ in web[1] if start in reached)
            self.assertEqual(parted_bounds(web) == ((), (False,)), is_even)

    def test_wrong_bounds(self):
        for bound in no_numbers(10 ** 18):
            self.assertEqual(caught(InvalidSize, is_parted, ODD, bound), "bound")
        for bound in no_numbers(60):
            self.assertEqual(caught(InvalidSize, parting_way, ODD, bound), "bound")

    def test_parting_way(self):
        self.assertEqual(parting_way(ODD, 1), ((0, 1, 2, 0),))
        self.assertEqual(parting_way(ODD, 2), ((0, 1, 2, 0),) * 2)
        self.assertEqual(parting_way(ODD, 60), ((0, 1, 2, 0),) * 31)
        self.assertIsNone(parting_way(ODD, 0))
        self.assertIsNone(parting_way(EVEN, 60))
        # The least one of two ways of two steps.
        web = (3, ((0, 1, 1, 1), (0, 1, 1, 2), (1, 1, 3, 0), (1, 2, 3, 0), (2, 1, 3, 0)))
        self.assertEqual(parting_way(web, 2), ((0, 1, 1, 1), (1, 1, 3, 0)))
        rng = random.Random(28)
        for _ in range(150):
            web = random_web(rng, most_levels=3, most_steps=6)
            for bound in (1, 2, 3, 5, 8):
                way = parting_way(web, bound)
                self.assertEqual(way is not None, is_parted(web, bound))
                if way is None or len(way) < 5:
                    self.assertEqual(way, slow_way(web, bound))

    def test_bounds_hold(self):
        rng = random.Random(29)
        for _ in range(60):
            web = random_web(rng)
            ahead, again = parted_bounds(web)
            self.assertIs(bounds_hold(web, (ahead, again)), True)
            self.assertIs(bounds_hold(web, (ahead + again, again * 3)), True)
            longer = tuple(told((ahead, again), bound) for bound in range(len(ahead) + 2))
            turned = tuple(told((ahead, again), len(longer) + at) for at in range(2 * len(again)))
            self.assertIs(bounds_hold(web, (longer, turned)), True)
            self.assertIs(bounds_hold(web, (ahead, ())), False)
            for pair in ((longer, turned), (ahead, again)):
                for part in (0, 1):
                    for at in range(len(pair[part])):
                        row = pair[part]
                        wrong = [pair[0], pair[1]]
                        wrong[part] = row[:at] + (not row[at],) + row[at + 1:]
                        if wrong != [ahead, again]:
                            self.assertIs(bounds_hold(web, tuple(wrong)), self.is_right(web, tuple(wrong)))

    def is_right(self, web, pair):
        right = parted_bounds(web)
        many = max(len(pair[0]), len(right[0])) + lcm(len(pair[1]), len(right[1]))
        return all(told(pair, bound) == told(right, bound) for bound in range(many))

    def test_long_pairs_hold(self):
        self.assertIs(bounds_hold(HALF, ((False, True, True, False) * 30 + (False,), (True, True, False, False) * 40)), True)
        self.assertIs(bounds_hold(HALF, ((False, True, True, False) * 30, (True, True, False, False) * 40)), False)

    def test_bounds_hold_of_any_values(self):
        for value in values() + [
            ([False], (True,)), ((False,), [True]), [(False,), (True,)], ((0,), (1,)), ((False,), (1,)), ((0,), (True,)),
            ((False,), (True,), ()), ((False,),), ((False,), True), (False, (True,)), ((False, None), (True,)),
        ]:
            self.assertIs(bounds_hold(ODD, value), False)
        self.assertIs(bounds_hold(web=ODD, value=((False,), (True,))), True)
        self.assertIs(bounds_hold([1, [[0, 1, 2, 0]]], ((False, True), (True, True))), True)

    def test_evened(self):
        self.assertEqual(evened((), ()), ())
        self.assertEqual(evened([3, 1, 2, 0], []), (3, 1, 2, 0))
        self.assertEqual(evened([3, 1, 2, 0, 999], [[1, 2], [3, 1], (0, 0)]), (3, 2, 2, 2, 999))
        self.assertEqual(evened(sizes=(1, 2, 3, 4), pairs=((0, 1), (2, 3), (1, 2))), (4, 4, 4, 4))
        sizes = [5, 7]
        self.assertEqual(evened(sizes, [[0, 1]]), (7, 7))
        self.assertEqual(sizes, [5, 7])
        rng = random.Random(30)
        for _ in range(100):
            sizes = [rng.randrange(20) for _ in range(rng.randint(1, 8))]
            pairs = [(rng.randrange(len(sizes)), rng.randrange(len(sizes))) for _ in range(rng.randrange(8))]
            lots = [{at} for at in range(len(sizes))]
            for one, other in pairs:
                whole = lots[one] | lots[other]
                for at in whole:
                    lots[at] = whole
            self.assertEqual(evened(sizes, pairs), tuple(max(sizes[at] for at in lot) for lot in lots))

    def test_evened_errors(self):
        for value in values():
            if not isinstance(value, (list, tuple)):
                self.assertEqual(caught(InvalidSize, evened, value, None), "sizes")
                self.assertEqual(caught(InvalidSize, evened, (1, 2), value), "pairs")
                self.assertEqual(caught(InvalidSize, evened, (1, 2), [(0, 1), value]), "pairs")
        for size in (1000, -1, True, None, "1", (1,)):
            self.assertEqual(caught(InvalidSize, evened, (1, size), ((9, 9),)), "sizes")
        for pair in ((0, 2), (0,), (0, 1, 1), (-1, 0), (False, 1), ("0", 1), (2, 0)):
            self.assertEqual(caught(InvalidSize, evened, (1, 999), (pair,)), "pairs")
        self.assertEqual(caught(InvalidSize, evened, (), ((0, 0),)), "pairs")


if __name__ == "__main__":
    unittest.main()
