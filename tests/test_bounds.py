"""[10] and [11]: what a route and a rule may hold; [2]: the very class of each refusal."""

import unittest

from plainpath.errors import BadRoute, BadRule
from plainpath.routes import need_route, need_rule

ROUTE = ("0101", (7, 8), 20, (3, 40))
ROUTE_PLACES = ("prefix", "path", "weight", "tags")
RULE = ("01", 16, 0, 0, "on", None, 0, 0, 0)
RULE_PLACES = ("prefix", "longest", "number", "tag", "deed", "prefer", "add", "take", "ahead")

BAD_PREFIXES = (
    "0" * 17, "01" * 50,
    "2", "a", " ", "0 1", "01\n", "\n", "-1", "0b1", "0" * 15 + "2", "2" + "1" * 15, "0x", ".",
    "\u0661", "\uff10", "\u00b9",
)


def route_with(name, value):
    place = ROUTE_PLACES.index(name)
    return ROUTE[:place] + (value,) + ROUTE[place + 1:]


def rule_with(name, value):
    place = RULE_PLACES.index(name)
    return RULE[:place] + (value,) + RULE[place + 1:]


class RouteTest(unittest.TestCase):
    def right(self, name, values):
        for value in values:
            with self.subTest(name=name, value=value):
                self.assertIsNone(need_route(route_with(name, value)))

    def bad(self, name, values):
        for value in values:
            with self.subTest(name=name, value=value):
                with self.assertRaises(BadRoute) as caught:
                    need_route(route_with(name, value))
                self.assertIs(type(caught.exception), BadRoute)

    def test_ordinary_route(self):
        self.assertIsNone(need_route(ROUTE))

    def test_right_prefixes(self):
        self.right("prefix", ("", "0", "1", "0" * 15, "0" * 16, "1" * 16, "01" * 8))

    def test_bad_prefixes(self):
        self.bad("prefix", BAD_PREFIXES)

    def test_right_paths(self):
        self.right("path", ((1,), (999,), (1,) * 12, (999,) * 12, tuple(range(988, 1000)), (5, 5), (9, 1, 9)))

    def test_paths_of_a_wrong_length(self):
        self.bad("path", ((), (1,) * 13, (5,) * 40))

    def test_paths_with_a_wrong_number(self):
        self.bad("path", ((0,), (1000,), (-1,), (-999,), (10 ** 30,)))
        for place in range(12):
            for number in (0, 1000):
                path = [5] * 12
                path[place] = number
                self.bad("path", (tuple(path),))

    def test_right_weights(self):
        self.right("weight", (0, 1, 999, 1000))

    def test_bad_weights(self):
        self.bad("weight", (-1, 1001, -1000, 10 ** 30, -10 ** 30))

    def test_right_tags(self):
        self.right("tags", ((), (1,), (99,), (1, 99), (1, 2, 3, 4), (96, 97, 98, 99)))

    def test_too_many_tags(self):
        self.bad("tags", ((1, 2, 3, 4, 5), tuple(range(1, 100))))

    def test_tags_out_of_bounds(self):
        self.bad("tags", ((0,), (100,), (-1,), (0, 1), (1, 2, 3, 100), (-5, 5), (10 ** 30,), (0, 1, 2, 3)))

    def test_tags_that_do_not_rise(self):
        self.bad("tags", ((2, 1), (1, 3, 2), (2, 1, 3), (1, 2, 4, 3), (4, 3, 2, 1)))

    def test_tags_that_stand_twice(self):
        self.bad("tags", ((1, 1), (99, 99), (1, 2, 2), (1, 1, 2), (1, 2, 3, 3), (1, 2, 1)))

    def test_several_bounds_broken(self):
        with self.assertRaises(BadRoute):
            need_route(("2", (), -1, (0,)))


class RuleTest(unittest.TestCase):
    def right(self, name, values):
        for value in values:
            with self.subTest(name=name, value=value):
                self.assertIsNone(need_rule(rule_with(name, value)))

    def bad(self, name, values):
        for value in values:
            with self.subTest(name=name, value=value):
                with self.assertRaises(BadRule) as caught:
                    need_rule(rule_with(name, value))
                self.assertIs(type(caught.exception), BadRule)

    def test_ordinary_rules(self):
        self.assertIsNone(need_rule(RULE))
        self.assertIsNone(need_rule(("", 8, 7, 3, "yes", 200, 4, 5, 2)))

    def test_all_least_and_all_greatest(self):
        self.assertIsNone(need_rule(("", 0, 0, 0, "no", 0, 0, 0, 0)))
        self.assertIsNone(need_rule(("1" * 16, 16, 999, 99, "yes", 1000, 99, 99, 3)))

    def test_prefix(self):
        self.right("prefix", ("", "0", "1", "0" * 16, "1" * 16))
        self.bad("prefix", BAD_PREFIXES)

    def test_longest(self):
        self.right("longest", (0, 1, 15, 16))
        self.bad("longest", (-1, 17, -100, 100, 10 ** 30))

    def test_longest_below_the_prefix_is_no_broken_bound(self):
        self.assertIsNone(need_rule(("0101", 2, 0, 0, "on", None, 0, 0, 0)))

    def test_number(self):
        self.right("number", (0, 1, 998, 999))
        self.bad("number", (-1, 1000, -999, 10 ** 30))

    def test_tag_add_and_take(self):
        for name in ("tag", "add", "take"):
            self.right(name, (0, 1, 98, 99))
            self.bad(name, (-1, 100, -99, 999, 10 ** 30))

    def test_add_and_take_may_be_one(self):
        self.assertIsNone(need_rule(("", 16, 0, 0, "on", None, 7, 7, 0)))

    def test_deed(self):
        self.right("deed", ("no", "yes", "on"))
        self.bad("deed", ("", "n", "o", "noyes", "No", "YES", "on ", " on", "off", "maybe", "yes\n", "0"))

    def test_prefer(self):
        self.right("prefer", (None, 0, 1, 100, 999, 1000))
        self.bad("prefer", (-1, 1001, -1000, 10 ** 30))

    def test_ahead(self):
        self.right("ahead", (0, 1, 2, 3))
        self.bad("ahead", (-1, 4, -3, 100))

    def test_several_bounds_broken(self):
        with self.assertRaises(BadRule):
            need_rule(("2", 17, 1000, 100, "maybe", 1001, 100, 100, 4))


if __name__ == "__main__":
    unittest.main()
