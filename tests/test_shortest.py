"""[33]: with rules nowhere, a web at rest has chosen shortest paths, and of these by the least neighbours."""

import random
import unittest

from helper import ring, row, web_of, web_seen


def beside(number, lines):
    return [other for line in lines if number in line for other in line if other != number]


def distances(lines, owners):
    """How many lines each router is away from the nearest owner, for those that one leads to."""
    away = {}
    edge = sorted(owners)
    steps = 0
    while edge:
        away.update({number: steps for number in edge})
        edge = sorted({other for number in edge for other in beside(number, lines)} - set(away))
        steps += 1
    return away


def wanted(lines, owners, prefix):
    """By router, what [33] says is chosen; worked out from the lines alone."""
    away = distances(lines, owners)
    told = {}
    for number in sorted(away, key=lambda number: away[number]):
        if away[number] == 0:
            told[(number, prefix)] = (0, (prefix, (), 0, ()), 100)
        elif away[number] <= 12:
            first = min(other for other in beside(number, lines) if away[other] == away[number] - 1)
            path = (first,) + told[(first, prefix)][1][1]
            told[(number, prefix)] = (first, (prefix, path, 0, ()), 100)
    return told


class ShortestTest(unittest.TestCase):
    def rests(self, numbers, lines, owners):
        """Owners: by prefix, the routers whose own it is."""
        web = web_of(numbers, lines)
        for prefix in owners:
            for number in owners[prefix]:
                web.own(number, prefix, True)
        web.settle()
        told = {}
        for prefix in owners:
            told.update(wanted(lines, owners[prefix], prefix))
        self.assertTrue(web.is_resting())
        self.assertEqual(web_seen(web, numbers), told)
        return web

    def test_row(self):
        web = self.rests(range(1, 6), row(5), {"01": [1]})
        self.assertEqual(web.router(5).best("01"), (4, ("01", (4, 3, 2, 1), 0, ()), 100))
        self.assertEqual(web.router(1).best("01"), (0, ("01", (), 0, ()), 100))

    def test_row_with_a_prefix_of_each(self):
        self.rests(range(1, 8), row(7), {"01" + "0" * number: [number] for number in range(1, 8)})

    def test_rings(self):
        for size in (3, 4, 5, 6, 9):
            self.rests(range(1, size + 1), ring(size), {"0": [1], "1": [size], "": [2]})

    def test_ring_by_the_least_neighbour(self):
        web = self.rests(range(1, 5), ring(4), {"0": [1], "1": [2]})
        self.assertEqual(web.router(3).best("0")[1][1], (2, 1))
        self.assertEqual(web.router(4).best("1")[1][1], (1, 2))

    def test_it_goes_on_as_that_neighbours_path(self):
        lines = [(1, 5), (1, 6), (5, 3), (6, 2), (3, 7), (2, 8), (7, 9), (8, 9)]
        web = self.rests([1, 2, 3, 5, 6, 7, 8, 9], lines, {"0": [1]})
        self.assertEqual(web.router(9).best("0")[1][1], (7, 3, 5, 1))

    def test_two_that_own_the_same_prefix(self):
        web = self.rests(range(1, 8), row(7), {"01": [1, 7], "1": [3, 4]})
        self.assertEqual(web.router(3).best("01")[1][1], (2, 1))
        self.assertEqual(web.router(5).best("01")[1][1], (6, 7))
        self.assertEqual(web.router(4).best("01")[1][1], (3, 2, 1))
        self.assertEqual(web.router(1).best("1")[1][1], (2, 3))

    def test_at_12_and_at_13_lines(self):
        web = self.rests(range(1, 16), row(15), {"01": [1], "1": [15]})
        self.assertEqual(web.router(13).best("01")[1][1], tuple(range(12, 0, -1)))
        self.assertIsNone(web.router(14).best("01"))
        self.assertIsNone(web.router(15).best("01"))
        self.assertEqual(web.router(3).best("1")[1][1], tuple(range(4, 16)))
        self.assertEqual(web.router(2).chosen(), ["01"])

    def test_at_12_and_at_13_lines_of_a_ring(self):
        for size in (24, 25, 26, 27):
            self.rests(range(1, size + 1), ring(size), {"01": [1]})

    def test_parts_without_a_line_between(self):
        web = self.rests(range(1, 7), [(1, 2), (2, 3), (4, 5)], {"01": [1], "1": [5]})
        self.assertEqual(web.router(6).chosen(), [])
        self.assertEqual(web.router(4).chosen(), ["1"])

    def test_nobodys_prefix(self):
        web = self.rests(range(1, 5), ring(4), {"01": [1]})
        self.assertIsNone(web.router(3).best("0"))
        self.assertIsNone(web.router(3).best("010"))
        web.own(1, "01", False)
        web.settle()
        self.assertEqual(web_seen(web, range(1, 5)), {})

    def test_webs_of_all_shapes(self):
        chance = random.Random(33)
        for turn in range(60):
            size = chance.randint(2, 9)
            numbers = chance.sample(range(1, 1000), size)
            pairs = [(a, b) for a in numbers for b in numbers if a < b]
            lines = chance.sample(pairs, chance.randint(0, len(pairs)))
            owners = {prefix: chance.sample(numbers, chance.randint(1, 2)) for prefix in ("", "0", "01", "11")}
            with self.subTest(turn=turn):
                self.rests(numbers, lines, owners)


if __name__ == "__main__":
    unittest.main()
