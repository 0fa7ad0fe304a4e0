"""[20]: a router's neighbours: add, up, down and rules; [2]: what is refused changes nothing."""

import unittest

from helper import REFUSE, RefusalTest, router_with, rule, seen, tells
from plainpath.errors import BadRule, NoNeighbour
from plainpath.routers import Router

ROUTE = ("01", (7,), 5, ())
BAD_RULES = (
    rule(prefix="2"), rule(prefix="0" * 17), rule(longest=-1), rule(longest=17), rule(number=-1), rule(number=1000),
    rule(tag=-1), rule(tag=100), rule(deed="maybe"), rule(deed=""), rule(prefer=-1), rule(prefer=1001),
    rule(add=-1), rule(add=100), rule(take=-1), rule(take=100), rule(ahead=-1), rule(ahead=4),
)


class AddTest(RefusalTest):
    def test_any_other_number_of_the_bounds(self):
        router = Router(5)
        for other in (1, 4, 6, 998, 999):
            self.assertIsNone(router.add(other))
            self.assertIsNone(router.up(other))
            self.assertEqual(router.due(other), [])

    def test_a_router_of_the_least_and_of_the_greatest_number(self):
        self.assertIsNone(Router(1).add(999))
        self.assertIsNone(Router(999).add(1))

    def test_its_own_number(self):
        for number in (1, 5, 999):
            self.refuses(NoNeighbour, Router(number).add, number)

    def test_numbers_that_are_none(self):
        router = Router(5)
        for other in (0, 1000, -1, -5, 1001, 10 ** 30):
            self.refuses(NoNeighbour, router.add, other)
            self.refuses(NoNeighbour, router.up, other)

    def test_one_that_is_there(self):
        router = Router(5)
        router.add(7)
        self.refuses(NoNeighbour, router.add, 7)
        router.up(7)
        self.refuses(NoNeighbour, router.add, 7)

    def test_one_that_is_there_stays_as_it_is(self):
        router = router_with(5, 7, 8)
        router.rules(7, "in", [rule(prefer=300)])
        router.rules(7, "out", [rule(add=4)])
        router.hear(7, ROUTE)
        router.own("1", True)
        router.tell(7)
        before = seen(router, (7, 8))
        self.refuses(NoNeighbour, router.add, 7)
        self.assertEqual(seen(router, (7, 8)), before)
        router.hear(7, ("00", (7,), 0, ()))
        self.assertEqual(router.best("00"), (7, ("00", (7,), 0, ()), 300))

    def test_what_was_added_is_down(self):
        router = Router(5)
        router.add(7)
        self.refuses(NoNeighbour, router.due, 7)
        self.refuses(NoNeighbour, router.tell, 7)
        self.refuses(NoNeighbour, router.hear, 7, ROUTE)
        self.refuses(NoNeighbour, router.gone, 7, "01")

    def test_what_was_added_has_no_rules(self):
        router = router_with(5, 7, 8)
        router.hear(7, ROUTE)
        self.assertEqual(router.best("01"), (7, ROUTE, 100))
        self.assertEqual(router.due(8), [("route", ("01", (5, 7), 0, ()))])

    def test_a_refused_one_is_not_there(self):
        router = Router(5)
        self.refuses(NoNeighbour, router.add, 5)
        self.refuses(NoNeighbour, router.down, 5)
        self.refuses(NoNeighbour, router.rules, 5, "in", [])


class NotThereTest(RefusalTest):
    def test_up_and_down(self):
        router = router_with(5, 7)
        for other in (8, 5, 0, 1000, -1):
            self.refuses(NoNeighbour, router.up, other)
            self.refuses(NoNeighbour, router.down, other)

    def test_rules(self):
        router = router_with(5, 7)
        for other in (8, 5, 0, 1000, -1):
            for side in ("in", "out"):
                self.refuses(NoNeighbour, router.rules, other, side, [])
                self.refuses(NoNeighbour, router.rules, other, side, [rule()])

    def test_rules_that_are_bad_too(self):
        router = router_with(5, 7)
        for side in ("in", "out"):
            self.refuses(NoNeighbour, router.rules, 8, side, [BAD_RULES[0]])
            self.refuses(NoNeighbour, router.rules, 8, side, [rule()] * 9)


class UpAndDownTest(RefusalTest):
    def make(self):
        router = router_with(5, 7, 8)
        router.rules(7, "in", [rule(prefer=300)])
        router.rules(7, "out", [rule(add=4)])
        router.hear(7, ROUTE)
        router.own("1", True)
        return router

    def test_down_what_it_said_is_forgotten(self):
        router = self.make()
        self.assertEqual(router.best("01"), (7, ROUTE, 300))
        self.assertIsNone(router.down(7))
        self.assertIsNone(router.best("01"))
        self.assertIsNone(router.find("01" * 8))
        self.assertEqual(router.chosen(), ["1"])
        router.up(7)
        self.assertIsNone(router.best("01"))
        self.assertEqual(router.chosen(), ["1"])

    def test_down_another_takes_the_place(self):
        router = self.make()
        router.hear(8, ("01", (8, 9), 0, ()))
        router.down(7)
        self.assertEqual(router.best("01"), (8, ("01", (8, 9), 0, ()), 100))

    def test_down_others_are_told_of_it(self):
        router = self.make()
        tells(router, 8)
        router.down(7)
        self.assertEqual(router.due(8), [("gone", "01")])

    def test_down_what_it_was_told_is_forgotten(self):
        router = self.make()
        message = ("route", ("1", (5,), 0, (4,)))
        self.assertEqual(tells(router, 7), [message])
        self.assertEqual(router.due(7), [])
        router.down(7)
        router.up(7)
        self.assertEqual(tells(router, 7), [message])

    def test_down_nothing_is_gone_of_what_was_told_before(self):
        router = self.make()
        tells(router, 7)
        router.down(7)
        router.own("1", False)
        router.up(7)
        self.assertEqual(router.due(7), [])

    def test_down_and_up_again_the_rules_stay(self):
        router = self.make()
        router.down(7)
        router.up(7)
        router.hear(7, ROUTE)
        self.assertEqual(router.best("01"), (7, ROUTE, 300))
        self.assertEqual(router.due(7), [("route", ("1", (5,), 0, (4,)))])

    def test_down_nobody_else_is_forgotten(self):
        router = self.make()
        router.hear(8, ("00", (8,), 0, ()))
        told = tells(router, 8)
        self.assertEqual(len(told), 2)
        router.down(7)
        self.assertEqual(router.best("00"), (8, ("00", (8,), 0, ()), 100))
        router.up(7)
        router.hear(7, ROUTE)
        self.assertEqual(router.due(8), [])

    def test_down_it_can_be_given_rules(self):
        router = self.make()
        router.down(7)
        router.rules(7, "in", [rule(prefer=20)])
        router.rules(7, "out", [])
        router.up(7)
        router.hear(7, ROUTE)
        self.assertEqual(router.best("01"), (7, ROUTE, 20))
        self.assertEqual(router.due(7), [("route", ("1", (5,), 0, ()))])

    def test_up_of_one_that_is_up_changes_nothing(self):
        router = self.make()
        tells(router, 7)
        before = seen(router, (7, 8))
        self.assertIsNone(router.up(7))
        self.assertEqual(seen(router, (7, 8)), before)
        self.assertEqual(router.due(7), [])

    def test_down_of_one_that_is_down_changes_nothing(self):
        router = self.make()
        router.down(7)
        before = seen(router, (7, 8))
        self.assertIsNone(router.down(7))
        self.assertEqual(seen(router, (7, 8)), before)


class RulesTest(RefusalTest):
    def make(self):
        router = router_with(5, 7, 8)
        router.hear(7, ROUTE)
        return router

    def test_eight_rules_and_nine(self):
        router = self.make()
        for side in ("in", "out"):
            self.assertIsNone(router.rules(8, side, [rule(ahead=1)] * 8))
            self.refuses(BadRule, router.rules, 8, side, [rule()] * 9)
            self.refuses(BadRule, router.rules, 8, side, [rule()] * 30)
        self.assertEqual(router.due(8), [("route", ("01", (5,) * 9 + (7,), 0, ()))])

    def test_each_bad_rule(self):
        router = self.make()
        for side in ("in", "out"):
            for bad in BAD_RULES:
                self.refuses(BadRule, router.rules, 7, side, [bad])

    def test_a_bad_rule_among_good_ones(self):
        router = self.make()
        for place in range(8):
            some = [rule(deed="yes")] * 8
            some[place] = BAD_RULES[0]
            for side in ("in", "out"):
                self.refuses(BadRule, router.rules, 7, side, some)

    def test_what_is_refused_changes_nothing(self):
        router = self.make()
        router.rules(7, "in", [rule(prefer=300)])
        router.rules(8, "out", [rule(add=4)])
        before = seen(router, (7, 8))
        for some in ([REFUSE] * 9, [REFUSE, BAD_RULES[0]], [BAD_RULES[-1], REFUSE]):
            self.refuses(BadRule, router.rules, 7, "in", some)
            self.refuses(BadRule, router.rules, 8, "out", some)
            self.assertEqual(seen(router, (7, 8)), before)
        router.hear(7, ("1", (7,), 0, ()))
        self.assertEqual(router.best("1")[2], 300)
        self.assertEqual(router.due(8)[1], ("route", ("1", (5, 7), 0, (4,))))

    def test_rules_in_take_the_place_of_those_it_had(self):
        router = self.make()
        router.rules(7, "in", [rule(prefer=300), rule(add=4)])
        self.assertEqual(router.best("01"), (7, ("01", (7,), 5, (4,)), 300))
        router.rules(7, "in", [rule(add=6)])
        self.assertEqual(router.best("01"), (7, ("01", (7,), 5, (6,)), 100))
        router.rules(7, "in", [])
        self.assertEqual(router.best("01"), (7, ROUTE, 100))

    def test_rules_out_take_the_place_of_those_it_had(self):
        router = self.make()
        router.rules(8, "out", [rule(ahead=2), rule(add=4)])
        self.assertEqual(router.due(8), [("route", ("01", (5, 5, 5, 7), 0, (4,)))])
        router.rules(8, "out", [rule(add=6)])
        self.assertEqual(router.due(8), [("route", ("01", (5, 7), 0, (6,)))])
        router.rules(8, "out", [])
        self.assertEqual(router.due(8), [("route", ("01", (5, 7), 0, ()))])

    def test_the_two_sides_stand_apart(self):
        router = self.make()
        router.rules(7, "out", [REFUSE])
        router.rules(8, "in", [REFUSE])
        self.assertEqual(router.best("01"), (7, ROUTE, 100))
        self.assertEqual(router.due(8), [("route", ("01", (5, 7), 0, ()))])
        router.rules(7, "in", [REFUSE])
        self.assertIsNone(router.best("01"))

    def test_neighbours_stand_apart(self):
        router = router_with(5, 7, 8, 9)
        router.rules(8, "out", [REFUSE])
        router.hear(7, ROUTE)
        self.assertEqual(router.due(8), [])
        self.assertEqual(router.due(9), [("route", ("01", (5, 7), 0, ()))])

    def test_a_list_changed_behind_changes_nothing(self):
        router = self.make()
        some_in = [rule(prefer=300)]
        some_out = [rule(add=4)]
        router.rules(7, "in", some_in)
        router.rules(8, "out", some_out)
        before = seen(router, (7, 8))
        some_in[0] = REFUSE
        some_in.append(REFUSE)
        some_out.clear()
        self.assertEqual(seen(router, (7, 8)), before)
        router.hear(7, ("1", (7,), 0, ()))
        self.assertEqual(router.best("1")[2], 300)
        self.assertEqual(router.due(8)[1], ("route", ("1", (5, 7), 0, (4,))))

    def test_one_list_for_several(self):
        router = router_with(5, 7, 8)
        some = [rule(prefer=300)]
        router.rules(7, "in", some)
        router.rules(8, "in", some)
        router.rules(7, "in", [])
        router.hear(7, ROUTE)
        router.hear(8, ("01", (8, 9), 0, ()))
        self.assertEqual(router.best("01"), (8, ("01", (8, 9), 0, ()), 300))
        self.assertEqual(some, [rule(prefer=300)])


if __name__ == "__main__":
    unittest.main()
