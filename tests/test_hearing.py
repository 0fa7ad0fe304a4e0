"""[21]: hear, gone and own; [2]: the order of refusals, and that what is refused changes nothing."""

import unittest

from helper import BAD_PREFIXES, BAD_ROUTES, router_with, rule, seen, tells
from plainpath.errors import BadRoute, NoNeighbour

ROUTE = ("01", (7, 9), 5, (3,))


class HearingTest(unittest.TestCase):
    def setUp(self):
        self.router = router_with(5, 7, 8)
        self.router.add(6)
        self.router.rules(7, "in", [rule(prefer=300)])
        self.router.hear(7, ROUTE)
        self.router.own("1", True)
        self.router.tell(8)

    def refuses(self, refusal, deed, *arguments):
        before = seen(self.router, (6, 7, 8))
        with self.subTest(arguments=arguments):
            with self.assertRaises(refusal) as caught:
                deed(*arguments)
            self.assertIs(type(caught.exception), refusal)
            self.assertEqual(seen(self.router, (6, 7, 8)), before)


class HearTest(HearingTest):
    def test_what_is_said_is_there(self):
        self.assertIsNone(self.router.hear(8, ("00", (8,), 0, ())))
        self.assertEqual(self.router.best("00"), (8, ("00", (8,), 0, ()), 100))

    def test_edges_of_a_route(self):
        for route in (("", (7,), 1000, (1, 2, 3, 99)), ("0" * 16, (7,) * 12, 0, ()), ("11", (7, 1, 999), 0, (99,))):
            self.router.hear(7, route)
            self.assertEqual(self.router.best(route[0]), (7, route, 300))

    def test_it_takes_the_place_of_what_was_said(self):
        worse = ("01", (7, 1, 2, 3), 900, ())
        self.router.hear(7, worse)
        self.assertEqual(self.router.best("01"), (7, worse, 300))
        self.router.hear(7, ROUTE)
        self.assertEqual(self.router.best("01"), (7, ROUTE, 300))

    def test_what_does_not_count_takes_the_place_too(self):
        self.router.hear(7, ("01", (7, 5), 0, ()))
        self.assertIsNone(self.router.best("01"))

    def test_other_prefixes_stay(self):
        self.router.hear(7, ("0", (7,), 0, ()))
        self.router.hear(7, ("010", (7,), 0, ()))
        self.assertEqual(self.router.best("01"), (7, ROUTE, 300))
        self.assertEqual(self.router.chosen(), ["0", "01", "010", "1"])

    def test_what_others_said_stays(self):
        self.router.hear(8, ("01", (8,), 0, ()))
        self.router.gone(7, "01")
        self.assertEqual(self.router.best("01"), (8, ("01", (8,), 0, ()), 100))

    def test_one_that_is_not_there(self):
        for other in (5, 9, 1, 999, 0, 1000, -1):
            self.refuses(NoNeighbour, self.router.hear, other, ("00", (other,), 0, ()))

    def test_one_that_is_down(self):
        self.refuses(NoNeighbour, self.router.hear, 6, ("00", (6,), 0, ()))
        self.router.down(8)
        self.refuses(NoNeighbour, self.router.hear, 8, ("00", (8,), 0, ()))

    def test_no_neighbour_ahead_of_bad_route(self):
        for route in BAD_ROUTES:
            self.refuses(NoNeighbour, self.router.hear, 9, route)
            self.refuses(NoNeighbour, self.router.hear, 6, route)

    def test_bad_routes(self):
        for route in BAD_ROUTES:
            self.refuses(BadRoute, self.router.hear, 7, route)

    def test_a_path_that_begins_with_another_number(self):
        for path in ((8,), (9, 7), (5, 7), (8, 7, 7), (1,) * 11 + (7,)):
            self.refuses(BadRoute, self.router.hear, 7, ("01", path, 0, ()))
            self.refuses(BadRoute, self.router.hear, 7, ("00", path, 0, ()))


class GoneTest(HearingTest):
    def test_nothing_is_said_any_more(self):
        self.assertIsNone(self.router.gone(7, "01"))
        self.assertIsNone(self.router.best("01"))
        self.assertEqual(self.router.chosen(), ["1"])

    def test_it_may_be_said_again(self):
        self.router.gone(7, "01")
        self.router.hear(7, ROUTE)
        self.assertEqual(self.router.best("01"), (7, ROUTE, 300))

    def test_of_what_was_never_said(self):
        before = seen(self.router, (7, 8))
        for prefix in ("", "0", "010", "1", "1" * 16):
            self.assertIsNone(self.router.gone(7, prefix))
            self.assertIsNone(self.router.gone(8, prefix))
        self.assertIsNone(self.router.gone(8, "01"))
        self.assertEqual(seen(self.router, (7, 8)), before)

    def test_one_that_is_not_there_or_is_down(self):
        for other in (5, 9, 0, 1000, -1, 6):
            self.refuses(NoNeighbour, self.router.gone, other, "01")

    def test_no_neighbour_ahead_of_bad_route(self):
        for prefix in BAD_PREFIXES:
            self.refuses(NoNeighbour, self.router.gone, 9, prefix)
            self.refuses(NoNeighbour, self.router.gone, 6, prefix)

    def test_a_text_that_is_no_prefix(self):
        for prefix in BAD_PREFIXES:
            self.refuses(BadRoute, self.router.gone, 7, prefix)


class OwnTest(HearingTest):
    def test_own_and_own_no_more(self):
        for prefix in ("", "0", "0" * 16, "1" * 16):
            self.assertIsNone(self.router.own(prefix, True))
            self.assertEqual(self.router.best(prefix), (0, (prefix, (), 0, ()), 100))
            self.assertIsNone(self.router.own(prefix, False))
            self.assertIsNone(self.router.best(prefix))

    def test_own_twice_is_own_once(self):
        self.router.own("1", True)
        self.assertEqual(self.router.best("1"), (0, ("1", (), 0, ()), 100))
        self.router.own("1", False)
        self.assertIsNone(self.router.best("1"))

    def test_what_is_not_own_may_be_taken_back(self):
        before = seen(self.router, (7, 8))
        self.assertIsNone(self.router.own("0", False))
        self.assertIsNone(self.router.own("01", False))
        self.assertEqual(seen(self.router, (7, 8)), before)

    def test_a_text_that_is_no_prefix(self):
        for prefix in BAD_PREFIXES:
            self.refuses(BadRoute, self.router.own, prefix, True)
            self.refuses(BadRoute, self.router.own, prefix, False)

    def test_down_of_a_neighbour_leaves_what_is_own(self):
        self.router.down(7)
        self.router.down(8)
        self.assertEqual(self.router.chosen(), ["1"])
        self.router.up(8)
        self.assertEqual(tells(self.router, 8), [("route", ("1", (5,), 0, ()))])


if __name__ == "__main__":
    unittest.main()
