"""[12]: when a rule fits a route, and how a list of rules judges it; [1]: what is handed in stays."""

import copy
import itertools
import unittest

from plainpath.routes import fits, judged

ROUTE = ("0101", (7, 8, 9), 20, (3, 40))


def rule(prefix="", longest=16, number=0, tag=0, deed="on", prefer=None, add=0, take=0, ahead=0):
    return (prefix, longest, number, tag, deed, prefer, add, take, ahead)


def tagged(*tags):
    return ROUTE[:3] + (tags,)


class FitsTest(unittest.TestCase):
    def fit(self, some_rule, route=ROUTE):
        self.assertIs(fits(some_rule, route), True)

    def misfit(self, some_rule, route=ROUTE):
        self.assertIs(fits(some_rule, route), False)

    def test_rule_that_asks_nothing(self):
        self.fit(rule())
        self.fit(rule(), ("", (1,), 0, ()))

    def test_prefix(self):
        for prefix in ("", "0", "01", "010", "0101"):
            self.fit(rule(prefix=prefix))
        for prefix in ("1", "00", "101", "0100", "01010", "01011", "1" * 16):
            self.misfit(rule(prefix=prefix))

    def test_empty_prefix_of_the_route(self):
        everything = ("", (7,), 0, ())
        self.fit(rule(prefix="", longest=0), everything)
        self.misfit(rule(prefix="0"), everything)

    def test_longest(self):
        for longest in (4, 5, 16):
            self.fit(rule(longest=longest))
        for longest in (3, 2, 0):
            self.misfit(rule(longest=longest))

    def test_longest_of_whole_addresses(self):
        address = ("01" * 8, (7,), 0, ())
        self.fit(rule(longest=16), address)
        self.misfit(rule(longest=15), address)

    def test_longest_below_the_rules_own_prefix_fits_nothing(self):
        self.misfit(rule(prefix="0101", longest=3))

    def test_number(self):
        for number in (0, 7, 8, 9):
            self.fit(rule(number=number))
        for number in (1, 6, 10, 20, 3, 40, 999, 78, 789):
            self.misfit(rule(number=number))

    def test_tag(self):
        for tag in (0, 3, 40):
            self.fit(rule(tag=tag))
        for tag in (1, 4, 34, 7, 20, 99):
            self.misfit(rule(tag=tag))

    def test_tag_of_a_route_without_tags(self):
        self.fit(rule(tag=0), tagged())
        self.misfit(rule(tag=3), tagged())

    def test_one_failing_condition_is_enough(self):
        right = {"prefix": "01", "longest": 4, "number": 8, "tag": 3}
        wrong = {"prefix": "1", "longest": 3, "number": 6, "tag": 4}
        for count in range(5):
            for names in itertools.combinations(sorted(wrong), count):
                asked = dict(right)
                asked.update({name: wrong[name] for name in names})
                with self.subTest(wrong=names):
                    self.assertIs(fits(rule(**asked), ROUTE), count == 0)

    def test_what_a_rule_does_has_no_say(self):
        for deed in ("no", "yes", "on"):
            self.fit(rule(deed=deed, prefer=0, add=99, take=98, ahead=3))
            self.misfit(rule(prefix="1", deed=deed, prefer=0, add=3, take=40, ahead=3))

    def test_route_of_no_path(self):
        own = ("0101", (), 0, ())
        self.fit(rule(), own)
        self.misfit(rule(number=7), own)


class JudgedTest(unittest.TestCase):
    def tells(self, rules, expected, route=ROUTE):
        told = judged(rules, route)
        self.assertEqual(told, expected)
        if expected is not None:
            self.assertIs(type(told), tuple)
            self.assertIs(type(told[0]), tuple)
            self.assertIs(type(told[0][1]), tuple)
            self.assertIs(type(told[0][3]), tuple)
            for number in (told[1], told[2]) + told[0][3]:
                self.assertIs(type(number), int)

    def tells_tags(self, before, add, take, after):
        self.tells([rule(add=add, take=take)], (tagged(*after), 100, 0), tagged(*before))

    def test_no_rule(self):
        self.tells([], (ROUTE, 100, 0))

    def test_rules_that_do_not_fit(self):
        for deed in ("no", "yes", "on"):
            others = [rule(prefix="1", deed=deed, prefer=5, add=9, take=3, ahead=2)]
            self.tells(others, (ROUTE, 100, 0))
            self.tells(others + [rule(prefer=7)], (ROUTE, 7, 0))

    def test_no_refuses(self):
        self.tells([rule(deed="no")], None)
        self.tells([rule(deed="no", prefer=500, add=9, take=3, ahead=1)], None)

    def test_no_ends_whatever_stands_before_and_behind(self):
        self.tells([rule(prefer=500), rule(deed="no"), rule(deed="yes", prefer=600)], None)

    def test_yes_takes_the_route_as_it_is_then(self):
        self.tells([rule(deed="yes")], (ROUTE, 100, 0))
        self.tells([rule(deed="yes", prefer=5, add=9, take=3, ahead=2)], (tagged(9, 40), 5, 2))

    def test_nothing_behind_yes_is_done(self):
        first = rule(deed="yes", prefer=5, add=9, ahead=1)
        for deed in ("no", "yes", "on"):
            later = rule(deed=deed, prefer=6, add=10, take=3, ahead=3)
            self.tells([first, later], (tagged(3, 9, 40), 5, 1))

    def test_on_goes_on(self):
        self.tells([rule(prefer=5)], (ROUTE, 5, 0))
        self.tells([rule(prefer=5), rule(deed="no")], None)
        self.tells([rule(prefer=5, ahead=1), rule(prefer=6, ahead=1)], (ROUTE, 6, 2))

    def test_behind_the_last_rule_it_is_taken(self):
        self.tells([rule(add=1), rule(add=2), rule(prefix="1", deed="no")], (tagged(1, 2, 3, 40), 100, 0))

    def test_take(self):
        self.tells_tags((3, 40), 0, 3, (40,))
        self.tells_tags((3, 40), 0, 40, (3,))
        self.tells_tags((3,), 0, 3, ())
        self.tells_tags((1, 2, 3, 4), 0, 3, (1, 2, 4))

    def test_take_of_what_is_not_there(self):
        self.tells_tags((3, 40), 0, 4, (3, 40))
        self.tells_tags((), 0, 4, ())

    def test_add_at_its_place(self):
        self.tells_tags((), 5, 0, (5,))
        self.tells_tags((3, 40), 1, 0, (1, 3, 40))
        self.tells_tags((3, 40), 9, 0, (3, 9, 40))
        self.tells_tags((3, 40), 99, 0, (3, 40, 99))
        self.tells_tags((10, 20, 30), 25, 0, (10, 20, 25, 30))

    def test_add_not_twice(self):
        self.tells_tags((3, 40), 3, 0, (3, 40))
        self.tells_tags((3, 40), 40, 0, (3, 40))

    def test_add_not_beyond_four(self):
        self.tells_tags((1, 2, 3), 4, 0, (1, 2, 3, 4))
        self.tells_tags((1, 2, 3, 5), 4, 0, (1, 2, 3, 5))
        self.tells_tags((1, 2, 3, 5), 5, 0, (1, 2, 3, 5))

    def test_add_of_nothing(self):
        self.tells_tags((), 0, 0, ())
        self.tells_tags((3, 40), 0, 0, (3, 40))

    def test_take_goes_ahead_of_add(self):
        self.tells_tags((1, 2, 3, 5), 4, 5, (1, 2, 3, 4))
        self.tells_tags((1, 2, 3, 5), 4, 1, (2, 3, 4, 5))
        self.tells_tags((3, 40), 3, 3, (3, 40))
        self.tells_tags((3, 40), 9, 9, (3, 9, 40))
        self.tells_tags((1, 2, 3, 5), 4, 9, (1, 2, 3, 5))

    def test_prefer(self):
        self.tells([rule(prefer=None)], (ROUTE, 100, 0))
        self.tells([rule(prefer=0)], (ROUTE, 0, 0))
        self.tells([rule(prefer=1000)], (ROUTE, 1000, 0))
        self.tells([rule(prefer=5), rule(prefer=None)], (ROUTE, 5, 0))
        self.tells([rule(prefer=5), rule(prefer=0)], (ROUTE, 0, 0))
        self.tells([rule(prefer=0), rule(prefer=None, deed="yes")], (ROUTE, 0, 0))

    def test_ahead_is_added_up(self):
        self.tells([rule(ahead=3)], (ROUTE, 100, 3))
        self.tells([rule(ahead=1), rule(ahead=0), rule(ahead=2)], (ROUTE, 100, 3))
        self.tells([rule(ahead=3)] * 8, (ROUTE, 100, 24))
        self.tells([rule(ahead=1), rule(ahead=3, prefix="1"), rule(ahead=2, deed="yes")], (ROUTE, 100, 3))

    def test_path_prefix_and_weight_stay(self):
        told = judged([rule(prefer=9, add=9, take=3, ahead=3)], ROUTE)
        self.assertEqual(told[0][:3], ROUTE[:3])

    def test_later_rules_see_the_tags_as_they_are_then(self):
        self.tells([rule(add=9), rule(tag=9, deed="no")], None)
        self.tells([rule(take=3), rule(tag=3, deed="no")], (tagged(40), 100, 0))
        self.tells([rule(tag=3, take=3), rule(tag=3, prefer=7)], (tagged(40), 100, 0))
        self.tells([rule(tag=3, take=3, add=4), rule(tag=4, add=5, ahead=1)], (tagged(4, 5, 40), 100, 1))

    def test_a_rule_sees_the_tags_from_before_itself(self):
        self.tells([rule(tag=9, add=9, deed="no")], (ROUTE, 100, 0))
        self.tells([rule(tag=3, take=3, deed="no")], None)

    def test_later_rules_do_not_see_what_is_to_be_put_ahead(self):
        self.tells([rule(ahead=3, number=7), rule(number=1, deed="no")], (ROUTE, 100, 3))

    def test_order_of_the_rules_counts(self):
        refuse = rule(tag=9, deed="no")
        add = rule(add=9)
        self.tells([add, refuse], None)
        self.tells([refuse, add], (tagged(3, 9, 40), 100, 0))

    def test_route_of_no_path(self):
        self.tells([rule(add=5, ahead=1)], (("", (), 0, (5,)), 100, 1), ("", (), 0, ()))

    def test_what_is_handed_in_stays_and_is_judged_the_same_again(self):
        rules = [rule(prefer=5, add=9, take=3, ahead=1), rule(tag=9, deed="yes", add=10), rule(deed="no")]
        before = copy.deepcopy(rules)
        route = ("0101", (7, 8, 9), 20, (3, 40))
        first = judged(rules, route)
        self.assertEqual(first, (("0101", (7, 8, 9), 20, (9, 10, 40)), 5, 1))
        self.assertEqual(rules, before)
        self.assertEqual(route, ROUTE)
        self.assertEqual(judged(rules, route), first)

    def test_one_judging_leaves_nothing_for_the_next(self):
        self.tells([rule(prefer=5, ahead=3, add=9)], (tagged(3, 9, 40), 5, 3))
        self.tells([], (ROUTE, 100, 0))
        self.tells([rule(deed="no")], None)
        self.tells([], (ROUTE, 100, 0))


if __name__ == "__main__":
    unittest.main()
