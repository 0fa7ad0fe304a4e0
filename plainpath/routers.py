"""A router: what its neighbours said, what it chose of that, and what is due to each of them.

A choice is (neighbour, route, preference), of the neighbour 0 where the prefix is the router's own.
A message is ("route", route) or ("gone", prefix).
"""

from plainpath.errors import BadRoute, BadRule, NoNeighbour
from plainpath.routes import FIRST_PREFERENCE, GREATEST_NUMBER, MOST_STEPS
from plainpath.routes import judged, need_prefix, need_route, need_rule

MOST_RULES = 8


def rank(choice):
    # The least rank is the best choice; a greater preference must make a lesser rank.
    route = choice[1]
    return (-choice[2], len(route[1]), route[2], choice[0])


def message_of(prefix, route):
    if route is None:
        return ("gone", prefix)
    return ("route", route)


class Neighbour:
    def __init__(self):
        self.is_up = False
        self.rules_in = []
        self.rules_out = []
        # Routes by prefix: what it said is kept as it was heard, since the rules in may change behind it.
        self.said = {}
        self.told = {}

    def forget(self):
        self.said = {}
        self.told = {}

    def note_told(self, message):
        if message[0] == "route":
            route = message[1]
            self.told[route[0]] = route
        else:
            self.told.pop(message[1])


class Router:
    def __init__(self, number):
        self.number = number
        self.neighbours = {}
        self.owned = {}
        # By prefix, made anew with each change of what it hangs on, so that nothing is judged for each question.
        self.choices = {}

    def need_stranger(self, other):
        if other == self.number or not 1 <= other <= GREATEST_NUMBER:
            raise NoNeighbour("a neighbour has a number 1 to 999, another than the router's own")

    def need_neighbour(self, other):
        if other not in self.neighbours:
            raise NoNeighbour("there is no such neighbour")
        return self.neighbours[other]

    def need_up(self, other):
        neighbour = self.need_neighbour(other)
        if not neighbour.is_up:
            raise NoNeighbour("the neighbour is down")
        return neighbour

    def has_neighbour(self, other):
        return other in self.neighbours

    def speaks_with(self, other):
        return self.need_neighbour(other).is_up

    def add(self, other):
        self.need_stranger(other)
        if self.has_neighbour(other):
            raise NoNeighbour("the neighbour is there already")
        self.neighbours[other] = Neighbour()

    def up(self, other):
        neighbour = self.need_neighbour(other)
        neighbour.is_up = True

    def down(self, other):
        neighbour = self.need_neighbour(other)
        unsaid = list(neighbour.said)
        neighbour.is_up = False
        neighbour.forget()
        self.choose_again(unsaid)

    def rules(self, other, side, some):
        neighbour = self.need_neighbour(other)
        if len(some) > MOST_RULES:
            raise BadRule("there are more than 8 rules")
        for rule in some:
            need_rule(rule)
        if side == "in":
            neighbour.rules_in = list(some)
            self.choose_again(list(neighbour.said))
        else:
            neighbour.rules_out = list(some)

    def hear(self, other, route):
        neighbour = self.need_up(other)
        need_route(route)
        if route[1][0] != other:
            raise BadRoute("the path doesn't begin with the neighbour's number")
        neighbour.said[route[0]] = route
        self.choose_again([route[0]])

    def gone(self, other, prefix):
        neighbour = self.need_up(other)
        need_prefix(prefix)
        neighbour.said.pop(prefix, None)
        self.choose_again([prefix])

    def own(self, prefix, is_own):
        need_prefix(prefix)
        if is_own:
            self.owned[prefix] = True
        else:
            self.owned.pop(prefix, None)
        self.choose_again([prefix])

    def counting(self, prefix):
        found = []
        for other in self.neighbours:
            neighbour = self.neighbours[other]
            route = neighbour.said.get(prefix)
            if route is None or self.number in route[1]:
                continue
            verdict = judged(neighbour.rules_in, route)
            if verdict is not None:
                found.append((other, verdict[0], verdict[1]))
        return found

    def choice(self, prefix):
        if prefix in self.owned:
            return (0, (prefix, (), 0, ()), FIRST_PREFERENCE)
        return min(self.counting(prefix), key=rank, default=None)

    def choose_again(self, prefixes):
        for prefix in prefixes:
            choice = self.choice(prefix)
            if choice is None:
                self.choices.pop(prefix, None)
            else:
                self.choices[prefix] = choice

    def best(self, prefix):
        return self.choices.get(prefix)

    def find(self, address):
        for size in range(len(address), -1, -1):
            choice = self.best(address[:size])
            if choice is not None:
                return choice
        return None

    def chosen(self):
        return sorted(self.choices)

    def to_have(self, other, prefix):
        choice = self.best(prefix)
        # The path of the neighbour's own word begins with its number, so one question asks for both.
        if choice is None or other in choice[1][1]:
            return None
        verdict = judged(self.neighbours[other].rules_out, choice[1])
        if verdict is None:
            return None
        route = verdict[0]
        path = (self.number,) * (1 + verdict[2]) + route[1]
        if len(path) > MOST_STEPS:
            return None
        return (prefix, path, 0, route[3])

    def due(self, other):
        told = self.need_up(other).told
        messages = []
        for prefix in sorted(set(self.choices) | set(told)):
            route = self.to_have(other, prefix)
            if route != told.get(prefix):
                messages.append(message_of(prefix, route))
        return messages

    def tell(self, other):
        messages = self.due(other)
        if not messages:
            return None
        self.neighbours[other].note_told(messages[0])
        return messages[0]

    # As tell, again and again until nothing is due, but asking only once what is due.
    def tell_all(self, other):
        messages = self.due(other)
        for message in messages:
            self.neighbours[other].note_told(message)
        return messages
