"""THE PROMISE: the end hangs on the last words, the rules and the lines alone, and no message changes nothing."""

import random
import unittest

from helper import ring, router_with, rule, seen, tells, web_of, web_seen
from plainpath.errors import NoLine
from plainpath.routes import judged

PREFIXES = ("", "0", "01", "011", "1", "10")
OTHERS = (2, 3, 7, 11)
NUMBER = 5


def some_route(chance, other):
    rest = chance.choices((1, 2, 3, 5, 7, 11, 20), k=chance.choice((0, 0, 1, 2, 9, 10, 11)))
    tags = sorted(chance.sample((1, 2, 3, 4, 5), chance.randint(0, 4)))
    return (chance.choice(PREFIXES), (other, *rest), chance.choice((0, 1, 1000)), tuple(tags))


def some_rules(chance, preferences, numbers):
    return [
        rule(
            prefix=chance.choice(("", "", "0", "01", "1")), longest=chance.choice((16, 16, 2, 1)),
            number=chance.choice((0, 0, 0) + numbers), tag=chance.choice((0, 0, 1, 2)),
            deed=chance.choice(("on", "on", "yes", "no")), prefer=chance.choice(preferences),
            add=chance.choice((0, 1, 2)), take=chance.choice((0, 1, 2)), ahead=chance.choice((0, 0, 1, 3)),
        )
        for count in range(chance.randint(0, 3))
    ]


class Last:
    """The last words and rules of a history, and what the document says of them, worked out anew each time."""

    def __init__(self):
        self.said = {other: {} for other in OTHERS}
        self.rules = {(other, side): [] for other in OTHERS for side in ("in", "out")}
        self.owned = {}

    def best(self, prefix):
        if self.owned.get(prefix):
            return (0, (prefix, (), 0, ()), 100)
        found = []
        for other in OTHERS:
            route = self.said[other].get(prefix)
            told = judged(self.rules[(other, "in")], route) if route else None
            if told and NUMBER not in route[1]:
                found.append((-told[1], len(route[1]), route[2], other, told[0]))
        if not found:
            return None
        first = sorted(found)[0]
        return (first[3], first[4], -first[0])

    def to_have(self, other, prefix):
        best = self.best(prefix)
        if best is None or best[0] == other or other in best[1][1]:
            return None
        told = judged(self.rules[(other, "out")], best[1])
        if told is None or len(best[1][1]) + 1 + told[2] > 12:
            return None
        return (prefix, (NUMBER,) * (1 + told[2]) + best[1][1], 0, told[0][3])


class RouterTest(unittest.TestCase):
    def listen(self, router, other, memory):
        """Takes one message that is due, which must change what the neighbour has in mind."""
        message = router.tell(other)
        if message is None:
            return False
        before = dict(memory)
        if message[0] == "route":
            memory[message[1][0]] = message[1]
        else:
            memory.pop(message[1], None)
        self.assertNotEqual(memory, before)
        return True

    def step(self, chance, router, last, memories):
        """One random deed, done to the router and written down."""
        other = chance.choice(OTHERS)
        prefix = chance.choice(PREFIXES)
        deed = chance.choice(("hear",) * 6 + ("gone", "gone", "own", "rules", "rules", "down") + ("tell",) * 4)
        if deed == "hear":
            route = some_route(chance, other)
            router.hear(other, route)
            last.said[other][route[0]] = route
        elif deed == "gone":
            router.gone(other, prefix)
            last.said[other].pop(prefix, None)
        elif deed == "own":
            last.owned[prefix] = chance.choice((True, False))
            router.own(prefix, last.owned[prefix])
        elif deed == "rules":
            side = chance.choice(("in", "out"))
            last.rules[(other, side)] = some_rules(chance, (None, None, 100, 0, 300), OTHERS)
            router.rules(other, side, last.rules[(other, side)])
        elif deed == "down":
            router.down(other)
            router.up(other)
            last.said[other] = {}
            memories[other].clear()
        else:
            self.listen(router, other, memories[other])

    def agrees(self, router, last, memories):
        best = {prefix: last.best(prefix) for prefix in PREFIXES if last.best(prefix)}
        self.assertEqual({prefix: router.best(prefix) for prefix in PREFIXES if router.best(prefix)}, best)
        self.assertEqual(router.chosen(), sorted(best))
        for other in OTHERS:
            due = []
            for prefix in sorted(PREFIXES):
                route = last.to_have(other, prefix)
                if route != memories[other].get(prefix):
                    due.append(("gone", prefix) if route is None else ("route", route))
            self.assertEqual(router.due(other), due)

    def test_the_end_hangs_on_the_last_words_and_the_rules(self):
        chance = random.Random(5)
        for turn in range(40):
            router = router_with(NUMBER, *OTHERS)
            last = Last()
            memories = {other: {} for other in OTHERS}
            for count in range(60):
                self.step(chance, router, last, memories)
                self.agrees(router, last, memories)
            for other in OTHERS:
                while self.listen(router, other, memories[other]):
                    pass
            self.agrees(router, last, memories)

    def test_the_same_last_words_in_other_orders(self):
        chance = random.Random(6)
        for turn in range(30):
            words = {}
            for count in range(12):
                other = chance.choice(OTHERS)
                route = some_route(chance, other)
                words[(other, route[0])] = route
            rules = [
                (other, side, some_rules(chance, (None, 50, 300), OTHERS)) for other in OTHERS for side in ("in", "out")
            ]
            ends = [self.end_of(chance, words, rules) for order in range(5)]
            for end in ends:
                self.assertEqual(end, ends[0])

    def end_of(self, chance, words, rules):
        """What is chosen, and what each neighbour has in mind, behind the words and rules in some order."""
        router = router_with(NUMBER, *OTHERS)
        memories = {other: {} for other in OTHERS}
        deeds = [(router.hear, other, words[(other, prefix)]) for other, prefix in words]
        deeds += [(router.rules,) + some for some in rules]
        chance.shuffle(deeds)
        for deed in deeds:
            if deed[0] == router.hear:
                # Something else said ahead of the last word must leave no trace.
                router.hear(deed[1], (deed[2][0], (deed[1], 20), 0, ()))
                self.listen(router, OTHERS[0], memories[OTHERS[0]])
            deed[0](*deed[1:])
            other = chance.choice(OTHERS)
            self.listen(router, other, memories[other])
        for other in OTHERS:
            while self.listen(router, other, memories[other]):
                pass
        return (seen(router, OTHERS), memories)


class WebTest(unittest.TestCase):
    def plan(self, chance):
        size = chance.randint(3, 7)
        numbers = tuple(range(1, size + 1))
        pairs = [(one, other) for one in numbers for other in numbers if one < other]
        lines = sorted(set(chance.sample(pairs, chance.randint(0, len(pairs)))) | set(ring(size)[:-1]))
        owners = {prefix: chance.sample(numbers, chance.randint(1, 2)) for prefix in ("", "01", "1")}
        rules = {
            (one, other, side): some_rules(chance, (None,), numbers)
            for line in lines for one, other in (line, line[::-1]) for side in ("in", "out")
            if chance.random() < 0.4
        }
        return (numbers, lines, owners, rules)

    def makings(self, chance, plan):
        """What makes the plan's web of bare routers, in some order."""
        makings = [("own", number, prefix) for prefix in plan[2] for number in plan[2][prefix]]
        makings += [("join",) + (line if chance.random() < 0.5 else line[::-1]) for line in plan[1]]
        chance.shuffle(makings)
        return makings

    def stir(self, chance, web, lines, count):
        for turn in range(count):
            one, other = chance.choice(lines)
            if chance.random() < 0.5:
                one, other = other, one
            try:
                chance.choice((web.send, web.arrive))(one, other)
            except NoLine:
                pass

    def detour(self, chance, web, plan):
        number = chance.choice(plan[0])
        web.own(number, "11", True)
        self.stir(chance, web, plan[1], 8)
        web.own(number, "11", False)

    def give_rules(self, web, rules):
        for one, other, side in rules:
            web.router(one).rules(other, side, rules[(one, other, side)])

    def come_to_rest(self, chance, plan):
        """The plan's web, made in some order and stirred, its messages sent and arriving in whatever order."""
        numbers, lines, owners, rules = plan
        web = web_of(numbers, [])
        for deed in self.makings(chance, plan):
            if deed[0] == "own":
                web.own(deed[1], deed[2], True)
            else:
                web.join(deed[1], deed[2])
            self.stir(chance, web, lines, 4)
            self.detour(chance, web, plan)
        self.give_rules(web, rules)
        one, other = chance.choice(lines)
        self.stir(chance, web, lines, 20)
        web.cut(one, other)
        self.stir(chance, web, lines, 20)
        web.join(other, one)
        turns = 0
        while not web.is_resting():
            self.stir(chance, web, lines, 10)
            turns += 1
            self.assertLess(turns, 5000)
        return web_seen(web, numbers)

    def test_one_state_of_rest_without_preferences(self):
        chance = random.Random(32)
        for turn in range(25):
            plan = self.plan(chance)
            web = web_of(plan[0], plan[1])
            self.give_rules(web, plan[3])
            for prefix in plan[2]:
                for number in plan[2][prefix]:
                    web.own(number, prefix, True)
            web.settle()
            self.assertTrue(web.is_resting())
            wanted = web_seen(web, plan[0])
            for order in range(3):
                with self.subTest(turn=turn, order=order):
                    self.assertEqual(self.come_to_rest(chance, plan), wanted)

    def test_each_message_of_a_web_changes_something(self):
        chance = random.Random(24)
        for turn in range(10):
            plan = self.plan(chance)
            web = web_of(plan[0], plan[1])
            self.give_rules(web, plan[3])
            for prefix in plan[2]:
                web.own(plan[2][prefix][0], prefix, True)
            ways = [way for line in plan[1] for way in (line, line[::-1])]
            told = {way: {} for way in ways}
            while not web.is_resting():
                way = chance.choice(ways)
                due = web.router(way[0]).due(way[1])
                self.assertIs(web.send(*way), bool(due))
                if due:
                    prefix = due[0][1] if due[0][0] == "gone" else due[0][1][0]
                    self.assertNotEqual(told[way].get(prefix, ("gone", prefix)), due[0])
                    told[way][prefix] = due[0]
                web.arrive(*chance.choice(ways))


class HandedInTest(unittest.TestCase):
    def test_lists_handed_in_are_left_as_they_were(self):
        some = [rule(add=4), rule(tag=4, ahead=2)]
        router = router_with(5, 7, 8)
        router.rules(7, "in", some)
        router.rules(8, "out", some)
        router.hear(7, ("01", (7,), 0, ()))
        self.assertEqual(tells(router, 8), [("route", ("01", (5, 5, 5, 7), 0, (4,)))])
        self.assertEqual(some, [rule(add=4), rule(tag=4, ahead=2)])
        numbers = [3, 1, 2]
        web_of(numbers, [(1, 2)]).settle()
        self.assertEqual(numbers, [3, 1, 2])


if __name__ == "__main__":
    unittest.main()
