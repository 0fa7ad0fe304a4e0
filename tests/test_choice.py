"""[22]: what counts, what is chosen, and how it is asked for: best, find and chosen."""

import itertools
import unittest

from helper import REFUSE, router_with, rule


def best_of(words, rules=()):
    """What is chosen for "01" of (path, weight) said in every order; it must be one thing."""
    told = []
    for order in itertools.permutations(words):
        router = router_with(5, *sorted({path[0] for path, weight in words}))
        for other, some in rules:
            router.rules(other, "in", some)
        for path, weight in order:
            router.hear(path[0], ("01", path, weight, ()))
        told.append(router.best("01"))
    if any(one != told[0] for one in told):
        raise AssertionError(f"it hangs on the order: {told}")
    return told[0]


class OrdersTest(unittest.TestCase):
    def test_greatest_preference_ahead_of_all_else(self):
        words = (((9, 1, 2, 3), 900), ((7,), 0), ((6,), 0))
        rules = [(9, [rule(prefer=101)])]
        self.assertEqual(best_of(words, rules), (9, ("01", (9, 1, 2, 3), 900, ()), 101))

    def test_a_preference_below_the_first(self):
        words = (((9, 1, 2, 3), 900), ((7,), 0))
        self.assertEqual(best_of(words, [(7, [rule(prefer=99)])]), (9, ("01", (9, 1, 2, 3), 900, ()), 100))

    def test_preferences_at_the_edges(self):
        words = (((7,), 0), ((8, 1), 1), ((9, 1, 2), 2))
        rules = [(7, [rule(prefer=0)]), (8, [rule(prefer=999)]), (9, [rule(prefer=1000)])]
        self.assertEqual(best_of(words, rules)[0], 9)
        self.assertEqual(best_of(words[:2], rules[:2] + [])[0], 8)
        self.assertEqual(best_of(words[:1], rules[:1]), (7, ("01", (7,), 0, ()), 0))

    def test_preferences_are_told_as_numbers_not_as_texts(self):
        words = (((7,), 0), ((8,), 0))
        self.assertEqual(best_of(words, [(7, [rule(prefer=9)]), (8, [rule(prefer=10)])])[0], 8)

    def test_shortest_path_ahead_of_weight_and_neighbour(self):
        self.assertEqual(best_of((((9, 8), 1000), ((6, 1, 2), 0))), (9, ("01", (9, 8), 1000, ()), 100))

    def test_a_number_counts_each_time_it_is_in_the_path(self):
        self.assertEqual(best_of((((6, 6, 6), 0), ((9, 8), 1000)))[0], 9)

    def test_least_weight_ahead_of_neighbour(self):
        self.assertEqual(best_of((((9, 8), 3), ((6, 999), 4), ((7, 1), 10))), (9, ("01", (9, 8), 3, ()), 100))

    def test_least_neighbour(self):
        words = (((9, 1), 3), ((10, 1), 3), ((100, 1), 3))
        self.assertEqual(best_of(words), (9, ("01", (9, 1), 3, ()), 100))
        self.assertEqual(best_of(words[1:]), (10, ("01", (10, 1), 3, ()), 100))

    def test_the_rest_of_the_path_counts_for_nothing(self):
        self.assertEqual(best_of((((7, 999), 3), ((8, 1), 3)))[0], 7)

    def test_tags_count_for_nothing(self):
        router = router_with(5, 7, 8)
        router.hear(7, ("01", (7,), 0, (90, 91)))
        router.hear(8, ("01", (8,), 0, ()))
        self.assertEqual(router.best("01"), (7, ("01", (7,), 0, (90, 91)), 100))

    def test_each_prefix_has_its_own_choice(self):
        router = router_with(5, 7, 8)
        router.hear(7, ("0", (7, 1), 0, ()))
        router.hear(8, ("0", (8,), 0, ()))
        router.hear(7, ("01", (7,), 0, ()))
        router.hear(8, ("01", (8, 1), 0, ()))
        self.assertEqual(router.best("0")[0], 8)
        self.assertEqual(router.best("01")[0], 7)


class CountingTest(unittest.TestCase):
    def test_the_routers_number_in_the_path(self):
        for path in ((7, 5), (7, 5, 8), (7, 1, 2, 5), (7,) * 11 + (5,)):
            router = router_with(5, 7, 8)
            router.hear(7, ("01", path, 0, ()))
            self.assertIsNone(router.best("01"))
            self.assertEqual(router.chosen(), [])
            router.hear(8, ("01", (8,) * 12, 1000, ()))
            self.assertEqual(router.best("01")[0], 8)

    def test_other_numbers_that_look_alike(self):
        router = router_with(5, 7)
        router.hear(7, ("01", (7, 55, 15, 50), 0, ()))
        self.assertEqual(router.best("01")[0], 7)

    def test_rules_in_that_refuse(self):
        router = router_with(5, 7, 8)
        router.rules(7, "in", [rule(prefix="01", deed="no")])
        router.hear(7, ("01", (7,), 0, ()))
        router.hear(7, ("00", (7,), 0, ()))
        self.assertIsNone(router.best("01"))
        self.assertEqual(router.chosen(), ["00"])
        router.hear(8, ("01", (8, 1, 2), 10, ()))
        self.assertEqual(router.best("01"), (8, ("01", (8, 1, 2), 10, ()), 100))

    def test_rules_in_change_tags_and_preference(self):
        router = router_with(5, 7)
        router.rules(7, "in", [rule(take=3, add=9, prefer=250, ahead=3)])
        router.hear(7, ("01", (7, 1), 10, (3, 40)))
        self.assertEqual(router.best("01"), (7, ("01", (7, 1), 10, (9, 40)), 250))

    def test_ahead_of_rules_in_makes_no_path_longer(self):
        words = (((7, 1), 0), ((8, 1), 0))
        self.assertEqual(best_of(words, [(7, [rule(ahead=3)])]), (7, ("01", (7, 1), 0, ()), 100))

    def test_rules_given_behind_count_for_what_was_heard(self):
        router = router_with(5, 7, 8)
        router.hear(7, ("01", (7,), 0, (3,)))
        router.hear(8, ("01", (8, 1), 0, ()))
        self.assertEqual(router.best("01")[0], 7)
        router.rules(7, "in", [REFUSE])
        self.assertEqual(router.best("01"), (8, ("01", (8, 1), 0, ()), 100))
        router.rules(7, "in", [rule(tag=3, take=3, prefer=101)])
        self.assertEqual(router.best("01"), (7, ("01", (7,), 0, ()), 101))
        router.rules(7, "in", [rule(tag=3, prefer=50)])
        self.assertEqual(router.best("01"), (8, ("01", (8, 1), 0, ()), 100))
        router.rules(8, "in", [REFUSE])
        self.assertEqual(router.best("01"), (7, ("01", (7,), 0, (3,)), 50))
        router.rules(7, "in", [])
        self.assertEqual(router.best("01"), (7, ("01", (7,), 0, (3,)), 100))

    def test_rules_out_count_for_nothing_here(self):
        router = router_with(5, 7)
        router.rules(7, "out", [REFUSE])
        router.hear(7, ("01", (7,), 0, ()))
        self.assertEqual(router.best("01"), (7, ("01", (7,), 0, ()), 100))


class OwnTest(unittest.TestCase):
    def test_own_ahead_of_all(self):
        router = router_with(5, 7)
        router.rules(7, "in", [rule(prefer=1000)])
        router.hear(7, ("01", (7,), 0, (3,)))
        router.own("01", True)
        self.assertEqual(router.best("01"), (0, ("01", (), 0, ()), 100))
        router.hear(7, ("01", (7,), 0, ()))
        router.rules(7, "in", [rule(prefer=999)])
        self.assertEqual(router.best("01"), (0, ("01", (), 0, ()), 100))

    def test_own_no_more(self):
        router = router_with(5, 7)
        router.own("01", True)
        router.hear(7, ("01", (7,), 4, (3,)))
        router.own("01", False)
        self.assertEqual(router.best("01"), (7, ("01", (7,), 4, (3,)), 100))
        router.gone(7, "01")
        self.assertIsNone(router.best("01"))


class AskingTest(unittest.TestCase):
    def make(self):
        router = router_with(5, 7, 8)
        router.hear(7, ("", (7,), 0, ()))
        router.hear(8, ("01", (8,), 0, ()))
        router.hear(7, ("0110", (7, 1), 0, ()))
        router.own("0110" * 4, True)
        return router

    def test_best_of_nothing(self):
        self.assertIsNone(router_with(5, 7).best("01"))
        self.assertIsNone(router_with(5, 7).best(""))

    def test_best_is_of_the_very_prefix(self):
        router = self.make()
        self.assertIsNone(router.best("0"))
        self.assertIsNone(router.best("011"))
        self.assertIsNone(router.best("01100"))
        self.assertEqual(router.best(""), (7, ("", (7,), 0, ()), 100))

    def test_kinds(self):
        router = self.make()
        self.assertIs(type(router.best("01")), tuple)
        self.assertIs(type(router.best("0110" * 4)), tuple)
        self.assertIs(type(router.find("1" * 16)), tuple)
        self.assertIs(type(router.chosen()), list)

    def test_find_by_the_longest_prefix(self):
        router = self.make()
        self.assertEqual(router.find("0110" * 4), (0, ("0110" * 4, (), 0, ()), 100))
        self.assertEqual(router.find("0110" * 3 + "0111"), (7, ("0110", (7, 1), 0, ()), 100))
        self.assertEqual(router.find("0111" * 4), (8, ("01", (8,), 0, ()), 100))
        self.assertEqual(router.find("0011" * 4), (7, ("", (7,), 0, ()), 100))
        self.assertEqual(router.find("1" * 16), (7, ("", (7,), 0, ()), 100))

    def test_find_goes_by_length_ahead_of_preference(self):
        router = self.make()
        router.rules(7, "in", [rule(longest=0, prefer=1000)])
        self.assertEqual(router.find("0111" * 4)[0], 8)

    def test_find_passes_by_what_does_not_count(self):
        router = self.make()
        router.hear(7, ("011", (7, 5), 0, ()))
        self.assertEqual(router.find("0111" * 4), (8, ("01", (8,), 0, ()), 100))
        router.rules(8, "in", [REFUSE])
        self.assertEqual(router.find("0111" * 4), (7, ("", (7,), 0, ()), 100))

    def test_find_of_an_address_that_nothing_holds(self):
        router = self.make()
        router.gone(7, "")
        for address in ("1" * 16, "0011" * 4, "10" + "01" * 7):
            self.assertIsNone(router.find(address))
        self.assertIsNone(router_with(5).find("0" * 16))

    def test_chosen_in_order_as_texts(self):
        router = router_with(5, 7)
        prefixes = ["1", "01", "", "10", "0", "001", "11" * 8, "0" * 16, "100"]
        for prefix in prefixes:
            router.hear(7, (prefix, (7,), 0, ()))
        router.own("00", True)
        router.own("1", True)
        self.assertEqual(router.chosen(), ["", "0", "00", "0" * 16, "001", "01", "1", "10", "100", "11" * 8])

    def test_chosen_of_nothing(self):
        self.assertEqual(router_with(5, 7).chosen(), [])

    def test_a_list_told_is_the_askers_own(self):
        router = self.make()
        told = router.chosen()
        told.append("1")
        told.remove("01")
        self.assertEqual(router.chosen(), ["", "01", "0110", "0110" * 4])
        self.assertEqual(router.best("01"), (8, ("01", (8,), 0, ()), 100))


if __name__ == "__main__":
    unittest.main()
