"""[23] and [24]: what a neighbour is to have, and what is due to it and told."""

import unittest

from helper import REFUSE, router_with, rule, seen, tells
from plainpath.errors import NoNeighbour


class ToHaveTest(unittest.TestCase):
    def make(self, path=(7, 9), weight=30, tags=(3,)):
        router = router_with(5, 7, 8, 9)
        router.hear(7, ("01", path, weight, tags))
        return router

    def test_what_is_chosen_with_the_number_ahead_and_weight_0(self):
        self.assertEqual(self.make().due(8), [("route", ("01", (5, 7, 9), 0, (3,)))])

    def test_nothing_is_chosen(self):
        self.assertEqual(router_with(5, 7).due(7), [])
        router = self.make((7, 5))
        for other in (7, 8, 9):
            self.assertEqual(router.due(other), [])

    def test_its_own_word(self):
        self.assertEqual(self.make().due(7), [])

    def test_its_number_in_the_path(self):
        self.assertEqual(self.make().due(9), [])
        self.assertEqual(self.make((7, 1, 2, 9)).due(9), [])
        self.assertEqual(self.make((7, 1, 2, 99)).due(9), [("route", ("01", (5, 7, 1, 2, 99), 0, (3,)))])

    def test_a_prefix_of_its_own(self):
        router = self.make()
        router.own("01", True)
        for other in (7, 8, 9):
            self.assertEqual(router.due(other), [("route", ("01", (5,), 0, ()))])

    def test_only_what_is_chosen_is_told(self):
        router = self.make()
        router.hear(8, ("01", (8,), 0, ()))
        self.assertEqual(router.due(8), [])
        self.assertEqual(router.due(7), [("route", ("01", (5, 8), 0, ()))])

    def test_rules_out_that_refuse(self):
        router = self.make()
        router.hear(7, ("1", (7,), 0, ()))
        router.rules(8, "out", [rule(prefix="0", deed="no")])
        self.assertEqual(router.due(8), [("route", ("1", (5, 7), 0, ()))])

    def test_rules_out_change_tags(self):
        router = self.make()
        router.rules(8, "out", [rule(tag=3, take=3, add=50)])
        self.assertEqual(router.due(8), [("route", ("01", (5, 7, 9), 0, (50,)))])
        self.assertEqual(router.best("01"), (7, ("01", (7, 9), 30, (3,)), 100))

    def test_rules_out_judge_what_rules_in_made_of_it(self):
        router = self.make()
        router.rules(7, "in", [rule(take=3, add=20)])
        router.rules(8, "out", [rule(tag=3, deed="no"), rule(tag=20, add=21)])
        self.assertEqual(router.due(8), [("route", ("01", (5, 7, 9), 0, (20, 21)))])

    def test_rules_out_see_the_path_without_the_routers_number(self):
        router = self.make()
        router.own("1", True)
        router.rules(8, "out", [rule(number=5, deed="no"), rule(number=7, add=60)])
        self.assertEqual(router.due(8), [("route", ("01", (5, 7, 9), 0, (3, 60))), ("route", ("1", (5,), 0, ()))])

    def test_rules_out_of_a_prefix_of_its_own(self):
        router = router_with(5, 8)
        router.own("01", True)
        router.rules(8, "out", [rule(add=4, ahead=2)])
        self.assertEqual(router.due(8), [("route", ("01", (5, 5, 5), 0, (4,)))])
        router.rules(8, "out", [REFUSE])
        self.assertEqual(router.due(8), [])

    def test_ahead_is_put_in(self):
        router = self.make()
        for ahead in (0, 1, 2, 3):
            router.rules(8, "out", [rule(ahead=ahead)])
            self.assertEqual(router.due(8), [("route", ("01", (5,) * (1 + ahead) + (7, 9), 0, (3,)))])
        router.rules(8, "out", [rule(ahead=3), rule(ahead=2)])
        self.assertEqual(router.due(8), [("route", ("01", (5,) * 6 + (7, 9), 0, (3,)))])

    def test_a_path_of_12_and_of_13_then(self):
        eleven = (7,) + (1,) * 10
        self.assertEqual(self.make(eleven).due(8), [("route", ("01", (5,) + eleven, 0, (3,)))])
        self.assertEqual(self.make(eleven + (1,)).due(8), [])

    def test_a_path_of_12_and_of_13_by_ahead(self):
        router = self.make((7,) + (1,) * 8)
        router.rules(8, "out", [rule(ahead=2)])
        self.assertEqual(router.due(8), [("route", ("01", (5, 5, 5, 7) + (1,) * 8, 0, (3,)))])
        router.rules(8, "out", [rule(ahead=3)])
        self.assertEqual(router.due(8), [])

    def test_a_prefix_of_its_own_ahead_12_and_13_times(self):
        router = router_with(5, 8)
        router.own("01", True)
        router.rules(8, "out", [rule(ahead=3)] * 3 + [rule(ahead=2)])
        self.assertEqual(router.due(8), [("route", ("01", (5,) * 12, 0, ()))])
        router.rules(8, "out", [rule(ahead=3)] * 4)
        self.assertEqual(router.due(8), [])

    def test_the_path_grown_too_long_is_gone(self):
        router = self.make()
        tells(router, 8)
        router.hear(7, ("01", (7,) * 12, 0, ()))
        self.assertEqual(router.due(8), [("gone", "01")])

    def test_the_preference_counts_for_nothing(self):
        router = self.make()
        first = router.due(8)
        router.rules(8, "out", [rule(prefer=0)])
        self.assertEqual(router.due(8), first)
        tells(router, 8)
        router.rules(7, "in", [rule(prefer=900)])
        router.rules(8, "out", [rule(prefer=1000)])
        self.assertEqual(router.best("01")[2], 900)
        self.assertEqual(router.due(8), [])

    def test_ahead_of_rules_in_counts_for_nothing(self):
        router = self.make()
        router.rules(7, "in", [rule(ahead=3)])
        self.assertEqual(router.due(8), [("route", ("01", (5, 7, 9), 0, (3,)))])
        router.rules(8, "out", [rule(ahead=1)])
        self.assertEqual(router.due(8), [("route", ("01", (5, 5, 7, 9), 0, (3,)))])

    def test_rules_in_of_the_one_that_is_told_count_for_nothing(self):
        router = self.make()
        router.rules(8, "in", [REFUSE])
        self.assertEqual(router.due(8), [("route", ("01", (5, 7, 9), 0, (3,)))])


class DueTest(unittest.TestCase):
    def make(self):
        router = router_with(5, 7, 8)
        for prefix in ("1", "01", "", "10", "0"):
            router.hear(7, (prefix, (7,), 0, ()))
        return router

    def message(self, prefix, path=(5, 7), tags=()):
        return ("route", (prefix, path, 0, tags))

    def test_in_order_as_texts(self):
        wanted = [self.message(prefix) for prefix in ("", "0", "01", "1", "10")]
        self.assertEqual(self.make().due(8), wanted)

    def test_routes_and_gone_stand_in_one_order(self):
        router = self.make()
        tells(router, 8)
        router.gone(7, "01")
        router.gone(7, "")
        router.hear(7, ("0", (7, 6), 0, ()))
        router.own("11", True)
        wanted = [("gone", ""), self.message("0", (5, 7, 6)), ("gone", "01"), self.message("11", (5,))]
        self.assertEqual(router.due(8), wanted)
        self.assertEqual(tells(router, 8), wanted)

    def test_due_changes_nothing(self):
        router = self.make()
        self.assertEqual(router.due(8), router.due(8))
        self.assertEqual(len(router.due(8)), 5)

    def test_tell_one_at_a_time_and_then_none(self):
        router = self.make()
        wanted = router.due(8)
        for count in range(5):
            self.assertEqual(router.due(8), wanted[count:])
            self.assertEqual(router.tell(8), wanted[count])
        self.assertEqual(router.due(8), [])
        self.assertIsNone(router.tell(8))
        self.assertIsNone(router.tell(8))

    def test_kinds(self):
        router = self.make()
        self.assertIs(type(router.due(8)), list)
        self.assertIs(type(router.due(8)[0]), tuple)
        self.assertIs(type(router.tell(8)), tuple)

    def test_each_neighbour_is_told_for_itself(self):
        router = router_with(5, 7, 8, 9)
        router.hear(7, ("01", (7,), 0, ()))
        self.assertEqual(tells(router, 8), [self.message("01")])
        self.assertEqual(router.due(9), [self.message("01")])

    def test_nothing_is_told_twice(self):
        router = self.make()
        tells(router, 8)
        for prefix in ("1", "01", "", "10", "0"):
            router.hear(7, (prefix, (7,), 0, ()))
        self.assertEqual(router.due(8), [])
        router.hear(7, ("1", (7,), 500, ()))
        self.assertEqual(router.due(8), [])
        router.gone(7, "01")
        router.hear(7, ("01", (7,), 0, ()))
        self.assertIsNone(router.tell(8))

    def test_told_again_after_something_else(self):
        router = router_with(5, 7, 8)
        first = self.message("01")
        second = self.message("01", (5, 7, 6))
        router.hear(7, ("01", (7,), 0, ()))
        self.assertEqual(tells(router, 8), [first])
        router.hear(7, ("01", (7, 6), 0, ()))
        self.assertEqual(tells(router, 8), [second])
        router.hear(7, ("01", (7,), 0, ()))
        self.assertEqual(tells(router, 8), [first])
        router.gone(7, "01")
        self.assertEqual(tells(router, 8), [("gone", "01")])
        router.hear(7, ("01", (7,), 0, ()))
        self.assertEqual(tells(router, 8), [first])

    def test_only_the_last_is_told(self):
        router = router_with(5, 7, 8)
        router.hear(7, ("01", (7,), 0, ()))
        router.hear(7, ("01", (7, 6), 0, ()))
        self.assertEqual(tells(router, 8), [self.message("01", (5, 7, 6))])

    def test_gone_of_what_was_told(self):
        router = self.make()
        tells(router, 8)
        router.gone(7, "01")
        self.assertEqual(router.due(8), [("gone", "01")])
        self.assertEqual(router.tell(8), ("gone", "01"))
        self.assertEqual(router.due(8), [])
        self.assertIsNone(router.tell(8))

    def test_gone_of_what_was_never_told(self):
        router = self.make()
        for prefix in ("1", "01", "", "10", "0"):
            router.gone(7, prefix)
        self.assertEqual(router.due(8), [])
        self.assertIsNone(router.tell(8))

    def test_gone_where_the_neighbours_own_word_is_chosen(self):
        router = router_with(5, 7, 8)
        router.hear(7, ("01", (7, 6), 0, ()))
        tells(router, 8)
        router.hear(8, ("01", (8,), 0, ()))
        self.assertEqual(router.due(8), [("gone", "01")])
        self.assertEqual(router.due(7), [self.message("01", (5, 8))])

    def test_rules_out_given_behind_what_was_told(self):
        router = router_with(5, 7, 8)
        router.hear(7, ("01", (7,), 0, ()))
        tells(router, 8)
        router.rules(8, "out", [rule(add=4)])
        self.assertEqual(tells(router, 8), [self.message("01", tags=(4,))])
        router.rules(8, "out", [REFUSE])
        self.assertEqual(tells(router, 8), [("gone", "01")])
        router.rules(8, "out", [])
        self.assertEqual(tells(router, 8), [self.message("01")])
        router.rules(8, "out", [rule(prefer=5)])
        self.assertEqual(tells(router, 8), [])

    def test_rules_in_given_behind_what_was_told(self):
        router = router_with(5, 7, 8)
        router.hear(7, ("01", (7,), 0, ()))
        tells(router, 8)
        router.rules(7, "in", [REFUSE])
        self.assertEqual(router.due(8), [("gone", "01")])
        router.rules(7, "in", [rule(add=9)])
        self.assertEqual(router.due(8), [self.message("01", tags=(9,))])

    def test_one_that_comes_up_late_is_told_all(self):
        router = self.make()
        router.add(9)
        router.up(9)
        self.assertEqual(router.due(9), self.make().due(8))

    def test_one_that_is_not_there_or_is_down(self):
        router = self.make()
        router.add(9)
        router.tell(8)
        before = seen(router, (7, 8, 9))
        for other in (9, 6, 5, 0, 1000, -1):
            for deed in (router.due, router.tell):
                with self.subTest(other=other):
                    with self.assertRaises(NoNeighbour):
                        deed(other)
        self.assertEqual(seen(router, (7, 8, 9)), before)
        router.down(8)
        with self.assertRaises(NoNeighbour):
            router.tell(8)

    def test_a_list_told_is_the_askers_own(self):
        router = self.make()
        told = router.due(8)
        wanted = list(told)
        told.clear()
        self.assertEqual(router.due(8), wanted)
        told = router.due(8)
        told.append(("gone", "1"))
        told.reverse()
        self.assertEqual(tells(router, 8), wanted)


if __name__ == "__main__":
    unittest.main()
