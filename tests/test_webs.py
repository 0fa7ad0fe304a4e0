"""[30] to [32]: lines between routers, messages on the way, and rest."""

import unittest

from helper import BAD_PREFIXES, REFUSE, RefusalTest, ring, row, rule, web_of, web_seen
from plainpath.errors import BadRoute, NoLine, NoNeighbour
from plainpath.routers import Router
from plainpath.webs import Web

ABSENT = (4, 0, 1000, -1)


class MadeTest(RefusalTest):
    def test_the_very_router(self):
        web = Web([3, 1, 999])
        for number in (1, 3, 999):
            self.assertIsInstance(web.router(number), Router)
            self.assertIs(web.router(number), web.router(number))
        self.assertIsNot(web.router(1), web.router(3))
        web.router(3).own("01", True)
        self.assertEqual(web.router(3).chosen(), ["01"])
        self.assertEqual(web.router(1).chosen(), [])

    def test_each_has_its_number(self):
        web = web_of((3, 8), [(3, 8)])
        web.own(3, "01", True)
        self.assertEqual(web.router(3).due(8), [("route", ("01", (3,), 0, ()))])

    def test_a_router_that_is_not_there(self):
        web = Web([1, 2, 3])
        for number in ABSENT:
            self.refuses(NoLine, web.router, number)

    def test_a_list_changed_behind_changes_nothing(self):
        numbers = [1, 2, 3]
        web = Web(numbers)
        numbers.append(4)
        numbers.remove(2)
        self.refuses(NoLine, web.router, 4)
        self.assertIsNone(web.join(1, 2))
        self.assertEqual(numbers, [1, 3, 4])

    def test_a_web_of_one_router(self):
        web = Web([7])
        self.assertIs(web.is_resting(), True)
        self.assertIsNone(web.settle())
        self.assertIsNone(web.own(7, "01", True))
        self.assertIs(web.is_resting(), True)
        self.assertIsNone(web.settle())
        self.assertEqual(web.router(7).best("01"), (0, ("01", (), 0, ()), 100))
        self.refuses(NoLine, web.join, 7, 7)
        self.refuses(NoLine, web.cut, 7, 7)
        self.refuses(NoLine, web.send, 7, 7)


class JoinTest(RefusalTest):
    def test_both_are_neighbours_and_up(self):
        web = Web([1, 2, 3])
        self.assertIsNone(web.join(2, 1))
        self.assertEqual(web.router(1).due(2), [])
        self.assertEqual(web.router(2).due(1), [])
        self.refuses(NoNeighbour, web.router(1).due, 3)
        self.refuses(NoNeighbour, web.router(3).due, 1)

    def test_where_one_is_not_there(self):
        web = Web([1, 2, 3])
        for number in ABSENT:
            self.refuses(NoLine, web.join, 1, number)
            self.refuses(NoLine, web.join, number, 1)
            self.refuses(NoLine, web.join, number, number)
            self.refuses(NoNeighbour, web.router(1).up, number)

    def test_one_and_itself(self):
        web = Web([1, 2, 3])
        for number in (1, 2, 3):
            self.refuses(NoLine, web.join, number, number)

    def test_twice(self):
        web = Web([1, 2, 3])
        web.join(1, 2)
        web.own(1, "01", True)
        web.send(1, 2)
        self.refuses(NoLine, web.join, 1, 2)
        self.refuses(NoLine, web.join, 2, 1)
        self.assertIs(web.arrive(1, 2), True)
        self.assertEqual(web.router(2).best("01"), (1, ("01", (1,), 0, ()), 100))

    def test_again_behind_a_cut(self):
        web = web_of((1, 2), [(1, 2)])
        web.own(1, "01", True)
        web.settle()
        web.cut(1, 2)
        self.assertIsNone(web.join(2, 1))
        self.assertIs(web.is_resting(), False)
        web.settle()
        self.assertEqual(web.router(2).best("01"), (1, ("01", (1,), 0, ()), 100))

    def test_what_was_own_ahead_of_the_line_is_due_on_it(self):
        web = Web([1, 2])
        web.own(1, "01", True)
        web.join(1, 2)
        self.assertEqual(web.router(1).due(2), [("route", ("01", (1,), 0, ()))])

    def test_with_the_rules_that_they_had_as_neighbours(self):
        web = Web([1, 2])
        web.router(2).add(1)
        web.router(2).rules(1, "in", [rule(prefer=300)])
        web.join(1, 2)
        web.own(1, "01", True)
        web.settle()
        self.assertEqual(web.router(2).best("01"), (1, ("01", (1,), 0, ()), 300))

    def test_a_new_line_begins_with_nothing_said_or_told(self):
        web = Web([1, 2])
        first = web.router(1)
        first.add(2)
        first.up(2)
        first.own("01", True)
        first.tell(2)
        first.hear(2, ("1", (2,), 0, ()))
        web.join(1, 2)
        web.settle()
        self.assertEqual(first.chosen(), ["01"])
        self.assertEqual(web.router(2).best("01"), (1, ("01", (1,), 0, ()), 100))

    def test_a_number_that_no_neighbour_may_have_changes_neither_router(self):
        web = Web([1, 1000])
        for one, other in ((1, 1000), (1000, 1)):
            self.refuses(NoNeighbour, web.join, one, other)
            self.refuses(NoNeighbour, web.router(1000).up, 1)
            self.refuses(NoNeighbour, web.router(1).up, 1000)
            self.refuses(NoLine, web.send, one, other)


class CutTest(RefusalTest):
    def test_both_are_down(self):
        web = web_of((1, 2, 3), row(3))
        self.assertIsNone(web.cut(2, 1))
        self.refuses(NoNeighbour, web.router(1).due, 2)
        self.refuses(NoNeighbour, web.router(2).due, 1)
        self.assertEqual(web.router(2).due(3), [])

    def test_where_there_is_none(self):
        web = web_of((1, 2, 3), row(3))
        self.refuses(NoLine, web.cut, 1, 3)
        self.refuses(NoLine, web.cut, 3, 1)
        self.refuses(NoLine, web.cut, 2, 2)
        for number in ABSENT:
            self.refuses(NoLine, web.cut, 1, number)
            self.refuses(NoLine, web.cut, number, 1)

    def test_twice(self):
        web = web_of((1, 2, 3), row(3))
        web.cut(1, 2)
        self.refuses(NoLine, web.cut, 1, 2)
        self.refuses(NoLine, web.cut, 2, 1)
        self.refuses(NoLine, web.send, 1, 2)

    def test_what_was_said_over_it_is_forgotten(self):
        web = web_of((1, 2, 3), row(3))
        web.own(1, "01", True)
        web.settle()
        web.cut(1, 2)
        self.assertIsNone(web.router(2).best("01"))
        self.assertEqual(web.router(3).best("01"), (2, ("01", (2, 1), 0, ()), 100))
        web.settle()
        self.assertEqual(web_seen(web, (1, 2, 3)), {(1, "01"): (0, ("01", (), 0, ()), 100)})

    def test_messages_on_the_way_are_lost_both_ways(self):
        web = web_of((1, 2, 3), row(3))
        web.own(1, "01", True)
        web.own(2, "1", True)
        web.own(3, "001", True)
        web.send(1, 2)
        web.send(2, 1)
        web.send(3, 2)
        web.cut(1, 2)
        web.join(1, 2)
        self.assertIs(web.arrive(1, 2), False)
        self.assertIs(web.arrive(2, 1), False)
        self.assertIs(web.arrive(3, 2), True)
        self.assertEqual(web.router(1).chosen(), ["01"])
        self.assertEqual(web.router(2).chosen(), ["001", "1"])

    def test_lost_messages_are_due_again(self):
        web = web_of((1, 2), [(1, 2)])
        web.own(1, "01", True)
        web.send(1, 2)
        web.cut(1, 2)
        self.assertIs(web.is_resting(), True)
        web.join(1, 2)
        self.assertEqual(web.router(1).due(2), [("route", ("01", (1,), 0, ()))])

    def test_rules_are_kept_over_cut_and_join(self):
        web = web_of((1, 2), [(1, 2)])
        web.router(1).rules(2, "out", [rule(add=4)])
        web.router(2).rules(1, "in", [rule(prefer=300)])
        web.own(1, "01", True)
        for turn in range(2):
            web.settle()
            self.assertEqual(web.router(2).best("01"), (1, ("01", (1,), 0, (4,)), 300))
            web.cut(1, 2)
            self.assertIsNone(web.router(2).best("01"))
            web.join(2, 1)


class OwnTest(RefusalTest):
    def test_own_and_own_no_more(self):
        web = Web([1, 2])
        self.assertIsNone(web.own(1, "01", True))
        self.assertEqual(web.router(1).best("01"), (0, ("01", (), 0, ()), 100))
        self.assertEqual(web.router(2).chosen(), [])
        self.assertIsNone(web.own(1, "01", False))
        self.assertEqual(web.router(1).chosen(), [])

    def test_one_that_is_not_there(self):
        web = Web([1, 2, 3])
        for number in ABSENT:
            self.refuses(NoLine, web.own, number, "01", True)
            self.refuses(NoLine, web.own, number, "01", False)

    def test_a_text_that_is_no_prefix(self):
        web = Web([1, 2, 3])
        web.own(1, "01", True)
        for prefix in BAD_PREFIXES:
            self.refuses(BadRoute, web.own, 1, prefix, True)
            self.refuses(BadRoute, web.own, 1, prefix, False)
        self.assertEqual(web.router(1).chosen(), ["01"])


class MessagesTest(RefusalTest):
    def test_without_a_line(self):
        web = web_of((1, 2, 3), row(3))
        for one, other in ((1, 3), (3, 1), (1, 1), (1, 4), (4, 1), (0, 1000)):
            self.refuses(NoLine, web.send, one, other)
            self.refuses(NoLine, web.arrive, one, other)

    def test_where_there_is_none(self):
        web = web_of((1, 2), [(1, 2)])
        for deed in (web.send, web.arrive):
            self.assertIs(deed(1, 2), False)
            self.assertIs(deed(2, 1), False)

    def test_one_at_a_time(self):
        web = web_of((1, 2), [(1, 2)])
        web.own(1, "1", True)
        web.own(1, "01", True)
        self.assertIs(web.send(2, 1), False)
        self.assertIs(web.send(1, 2), True)
        self.assertEqual(web.router(1).due(2), [("route", ("1", (1,), 0, ()))])
        self.assertEqual(web.router(2).chosen(), [])
        self.assertIs(web.arrive(2, 1), False)
        self.assertIs(web.arrive(1, 2), True)
        self.assertEqual(web.router(2).chosen(), ["01"])
        self.assertIs(web.arrive(1, 2), False)
        self.assertIs(web.send(1, 2), True)
        self.assertIs(web.send(1, 2), False)
        self.assertIs(web.arrive(1, 2), True)
        self.assertIs(web.arrive(1, 2), False)
        self.assertEqual(web.router(2).chosen(), ["01", "1"])

    def test_on_the_way_they_stay_in_order(self):
        web = web_of((1, 2), [(1, 2)])
        web.own(1, "1", True)
        web.send(1, 2)
        web.own(1, "01", True)
        web.send(1, 2)
        web.own(1, "1", False)
        web.send(1, 2)
        seen = []
        while web.arrive(1, 2):
            seen.append(web.router(2).chosen())
        self.assertEqual(seen, [["1"], ["01", "1"], ["01"]])

    def test_the_last_word_of_several_on_the_way_stays(self):
        web = web_of((1, 2), [(1, 2)])
        for is_own in (True, False, True):
            web.own(1, "01", is_own)
            self.assertIs(web.send(1, 2), True)
        while web.arrive(1, 2):
            pass
        self.assertEqual(web.router(2).best("01"), (1, ("01", (1,), 0, ()), 100))
        self.assertIs(web.is_resting(), True)

    def test_gone_is_heard(self):
        web = web_of((1, 2), [(1, 2)])
        web.own(1, "01", True)
        web.settle()
        web.own(1, "01", False)
        self.assertIs(web.send(1, 2), True)
        self.assertEqual(web.router(2).chosen(), ["01"])
        self.assertIs(web.arrive(1, 2), True)
        self.assertEqual(web.router(2).chosen(), [])

    def test_nothing_is_sent_for_what_changes_nothing(self):
        web = web_of((1, 2), [(1, 2)])
        web.own(1, "01", True)
        web.settle()
        web.own(1, "01", False)
        web.own(1, "01", True)
        self.assertIs(web.send(1, 2), False)

    def test_a_message_that_is_refused_stays_on_the_way(self):
        web = web_of((1, 2), [(1, 2)])
        web.own(1, "01", True)
        web.send(1, 2)
        web.router(2).down(1)
        self.refuses(NoNeighbour, web.arrive, 1, 2)
        web.router(2).up(1)
        self.assertIs(web.arrive(1, 2), True)
        self.assertEqual(web.router(2).chosen(), ["01"])


class RestTest(RefusalTest):
    def test_nothing_due_and_nothing_on_the_way(self):
        web = web_of((1, 2, 3), row(3))
        self.assertIs(web.is_resting(), True)

    def test_something_due(self):
        web = web_of((1, 2, 3), row(3))
        web.own(3, "01", True)
        self.assertIs(web.is_resting(), False)

    def test_something_on_the_way_alone(self):
        web = web_of((1, 2), [(1, 2)])
        web.own(2, "01", True)
        web.send(2, 1)
        self.assertEqual(web.router(2).due(1), [])
        self.assertIs(web.is_resting(), False)
        web.arrive(2, 1)
        self.assertIs(web.is_resting(), True)

    def test_own_without_a_line_is_rest(self):
        web = web_of((1, 2, 3), [(1, 2)])
        web.own(3, "01", True)
        self.assertIs(web.is_resting(), True)

    def test_what_rules_out_refuse_is_not_due(self):
        web = web_of((1, 2), [(1, 2)])
        web.router(1).rules(2, "out", [REFUSE])
        web.own(1, "01", True)
        self.assertIs(web.is_resting(), True)


class DownUnderALineTest(RefusalTest):
    """A neighbour that was put down at a router itself, while the line between the two stays."""

    def downed(self):
        web = web_of((1, 2, 3), row(3))
        web.own(2, "0", True)
        web.router(2).down(1)
        return web

    def test_nothing_is_due_to_it(self):
        web = web_of((1, 2), [(1, 2)])
        web.own(1, "0", True)
        web.router(1).down(2)
        self.assertIs(web.is_resting(), True)
        self.assertIs(web.send(1, 2), False)
        self.assertIsNone(web.settle())
        self.assertIs(web.arrive(1, 2), False)
        self.assertEqual(web.router(2).chosen(), [])

    def test_the_router_itself_still_refuses(self):
        web = self.downed()
        self.refuses(NoNeighbour, web.router(2).due, 1)
        self.refuses(NoNeighbour, web.router(2).tell, 1)

    def test_at_both_ends(self):
        web = web_of((1, 2), [(1, 2)])
        web.router(1).down(2)
        web.router(2).down(1)
        web.own(1, "0", True)
        web.own(2, "1", True)
        self.assertIs(web.is_resting(), True)
        self.assertIs(web.send(1, 2), False)
        self.assertIs(web.send(2, 1), False)
        self.assertIsNone(web.settle())
        self.assertEqual(web.router(1).chosen(), ["0"])
        self.assertEqual(web.router(2).chosen(), ["1"])

    def test_the_line_is_there(self):
        web = self.downed()
        self.refuses(NoLine, web.join, 1, 2)
        self.refuses(NoLine, web.join, 2, 1)
        self.assertIsNone(web.cut(2, 1))
        self.refuses(NoLine, web.send, 2, 1)

    def test_settle_goes_on_over_other_lines(self):
        web = self.downed()
        web.own(3, "1", True)
        self.assertIs(web.is_resting(), False)
        self.assertIsNone(web.settle())
        self.assertIs(web.is_resting(), True)
        self.assertEqual(web.router(1).chosen(), [])
        self.assertEqual(web.router(2).best("1"), (3, ("1", (3,), 0, ()), 100))
        self.assertEqual(web.router(3).best("0"), (2, ("0", (2,), 0, ()), 100))

    def test_what_it_said_is_told_gone_to_others(self):
        web = web_of((1, 2, 3), row(3))
        web.own(1, "01", True)
        web.settle()
        web.router(2).down(1)
        self.assertIs(web.is_resting(), False)
        self.assertIsNone(web.settle())
        self.assertEqual(web_seen(web, (1, 2, 3)), {(1, "01"): (0, ("01", (), 0, ()), 100)})

    def test_what_is_on_the_way_to_it_still_arrives(self):
        for deed in (lambda web: web.settle(), lambda web: web.arrive(1, 2)):
            web = web_of((1, 2), [(1, 2)])
            web.own(1, "0", True)
            web.own(1, "1", True)
            web.send(1, 2)
            web.router(1).down(2)
            self.assertIs(web.is_resting(), False)
            deed(web)
            self.assertIs(web.is_resting(), True)
            self.assertEqual(web.router(2).chosen(), ["0"])

    def test_up_again_all_is_due(self):
        web = web_of((1, 2), [(1, 2)])
        web.own(1, "0", True)
        web.settle()
        web.router(1).down(2)
        web.own(1, "1", True)
        self.assertIs(web.is_resting(), True)
        web.router(1).up(2)
        self.assertIs(web.is_resting(), False)
        self.assertEqual(web.router(1).due(2), [("route", ("0", (1,), 0, ())), ("route", ("1", (1,), 0, ()))])
        for is_due in (True, True, False):
            self.assertIs(web.send(1, 2), is_due)
        web.settle()
        self.assertEqual(web.router(2).chosen(), ["0", "1"])

    def test_one_that_hears_nothing_refuses_what_arrives(self):
        # Here the listener has put the speaker down: to the listener, which is up at the speaker, all is still due.
        web = self.downed()
        web.own(1, "1", True)
        self.assertIs(web.is_resting(), False)
        self.assertIs(web.send(1, 2), True)
        self.refuses(NoNeighbour, web.arrive, 1, 2)
        self.refuses(NoNeighbour, web.settle)
        self.assertIs(web.is_resting(), False)
        web.router(2).up(1)
        self.assertIsNone(web.settle())
        self.assertEqual(web.router(2).best("1"), (1, ("1", (1,), 0, ()), 100))
        self.assertEqual(web.router(1).best("0"), (2, ("0", (2,), 0, ()), 100))


class SettleTest(RefusalTest):
    def test_it_ends_at_rest(self):
        web = web_of(range(1, 7), ring(6))
        for number in range(1, 7):
            web.own(number, "0" * number, True)
        self.assertIsNone(web.settle())
        self.assertIs(web.is_resting(), True)
        for number in range(1, 7):
            self.assertEqual(web.router(number).chosen(), ["0" * size for size in range(1, 7)])
        for one, other in ring(6):
            self.assertIs(web.send(one, other), False)
            self.assertIs(web.arrive(one, other), False)

    def test_what_is_on_the_way_arrives_ahead_of_what_is_due(self):
        web = web_of((1, 2), [(1, 2)])
        web.own(1, "01", True)
        web.send(1, 2)
        web.own(1, "01", False)
        web.own(1, "1", True)
        web.settle()
        self.assertIs(web.is_resting(), True)
        self.assertEqual(web.router(2).chosen(), ["1"])

    def test_at_rest_it_changes_nothing(self):
        web = web_of((1, 2, 3), row(3))
        web.own(1, "01", True)
        web.settle()
        before = web_seen(web, (1, 2, 3))
        web.settle()
        self.assertEqual(web_seen(web, (1, 2, 3)), before)

    def test_it_goes_on_behind_each_change(self):
        web = web_of(range(1, 5), ring(4))
        web.own(1, "01", True)
        web.settle()
        self.assertEqual(web.router(3).best("01")[1][1], (2, 1))
        web.cut(2, 3)
        web.settle()
        self.assertEqual(web.router(3).best("01")[1][1], (4, 1))
        web.join(3, 2)
        web.settle()
        self.assertEqual(web.router(3).best("01")[1][1], (2, 1))
        web.own(1, "01", False)
        web.settle()
        self.assertEqual(web_seen(web, range(1, 5)), {})

    def test_with_rules_that_refuse_change_tags_and_put_ahead(self):
        web = web_of(range(1, 5), ring(4))
        web.router(1).rules(2, "out", [rule(ahead=3, add=7)])
        web.router(3).rules(2, "out", [rule(tag=9, deed="no")])
        web.router(3).rules(4, "in", [rule(add=9)])
        web.own(1, "01", True)
        web.settle()
        self.assertEqual(web.router(2).best("01"), (1, ("01", (1, 1, 1, 1), 0, (7,)), 100))
        self.assertEqual(web.router(3).best("01"), (4, ("01", (4, 1), 0, (9,)), 100))
        web.router(3).rules(2, "out", [])
        self.assertIs(web.is_resting(), False)
        web.settle()
        self.assertEqual(web.router(2).best("01"), (3, ("01", (3, 4, 1), 0, (9,)), 100))

    def wish(self, web, one, other):
        web.router(one).rules(other, "in", [rule(prefer=200)])

    def test_the_turns_go_by_the_two_numbers(self):
        # Each of 2 and 3 would rather go by the other: two states of rest, and the order of the turns says which.
        # From 1 to 2, then 1 to 3, then 2 to 3: so 3 is the first to have its wish, and 2 is told nothing by it.
        for lines in ([(1, 2), (1, 3), (2, 3)], [(3, 2), (3, 1), (2, 1)]):
            web = web_of((3, 1, 2), lines)
            self.wish(web, 2, 3)
            self.wish(web, 3, 2)
            web.own(1, "01", True)
            web.settle()
            self.assertEqual(web.router(3).best("01"), (2, ("01", (2, 1), 0, ()), 200))
            self.assertEqual(web.router(2).best("01"), (1, ("01", (1,), 0, ()), 100))

    def test_the_turns_go_by_the_one_ahead_of_the_other(self):
        # From 2 to 1, then 2 to 3, then 3 to 1: by the other number first, 1 would speak to 3 before it hears of it.
        web = web_of((1, 2, 3), ring(3))
        self.wish(web, 1, 3)
        self.wish(web, 3, 1)
        web.own(2, "01", True)
        web.settle()
        self.assertEqual(web.router(1).best("01"), (3, ("01", (3, 2), 0, ()), 200))
        self.assertEqual(web.router(3).best("01"), (2, ("01", (2,), 0, ()), 100))

    def test_all_that_is_due_arrives_in_one_turn(self):
        # As above, but 3 hears of another prefix first: where only that arrived, 1 would speak of "1" ahead of 3.
        web = web_of((1, 2, 3), ring(3))
        self.wish(web, 1, 3)
        self.wish(web, 3, 1)
        web.router(2).rules(1, "out", [rule(prefix="0", deed="no")])
        web.own(2, "0", True)
        web.own(2, "1", True)
        web.settle()
        self.assertEqual(web.router(1).best("1"), (3, ("1", (3, 2), 0, ()), 200))
        self.assertEqual(web.router(3).best("1"), (2, ("1", (2,), 0, ()), 100))

    def test_the_turns_go_by_numbers_not_by_texts(self):
        web = web_of((1, 9, 10), [(1, 9), (1, 10), (9, 10)])
        self.wish(web, 9, 10)
        self.wish(web, 10, 9)
        web.own(1, "01", True)
        web.settle()
        self.assertEqual(web.router(10).best("01"), (9, ("01", (9, 1), 0, ()), 200))
        self.assertEqual(web.router(9).best("01"), (1, ("01", (1,), 0, ()), 100))


if __name__ == "__main__":
    unittest.main()
