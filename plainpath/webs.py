"""A web: routers, the lines between them, and the messages on the way along these."""

from plainpath.errors import NoLine
from plainpath.routers import Router


class Web:
    def __init__(self, numbers):
        self.routers = {}
        for number in numbers:
            self.routers[number] = Router(number)
        # The messages on the way, by (one, other); a line has two such ways, and where there is none it has neither.
        self.ways = {}

    def router(self, number):
        if number not in self.routers:
            raise NoLine("there is no such router")
        return self.routers[number]

    def need_way(self, one, other):
        if (one, other) not in self.ways:
            raise NoLine("there is no line between the two")
        return self.ways[(one, other)]

    def join(self, one, other):
        first = self.router(one)
        second = self.router(other)
        if one == other:
            raise NoLine("a line lies between two routers")
        if (one, other) in self.ways:
            raise NoLine("there is a line already")
        # Both are asked ahead of either's change, so that a refusal changes neither.
        first.need_stranger(other)
        second.need_stranger(one)
        self.lay_way(one, other)
        self.lay_way(other, one)

    def lay_way(self, one, other):
        router = self.routers[one]
        if not router.has_neighbour(other):
            router.add(other)
        # Nothing has come along a new line, whatever the router itself was asked to hear or tell before.
        router.down(other)
        router.up(other)
        self.ways[(one, other)] = []

    def cut(self, one, other):
        self.need_way(one, other)
        self.lift_way(one, other)
        self.lift_way(other, one)

    def lift_way(self, one, other):
        self.routers[one].down(other)
        self.ways.pop((one, other))

    def own(self, number, prefix, is_own):
        self.router(number).own(prefix, is_own)

    # Anyone may put a neighbour down at the router itself: the line stays then, and nothing is due to that neighbour.
    def may_send(self, one, other):
        return self.routers[one].speaks_with(other)

    def has_due(self, one, other):
        return self.may_send(one, other) and len(self.routers[one].due(other)) > 0

    def send(self, one, other):
        way = self.need_way(one, other)
        if not self.may_send(one, other):
            return False
        message = self.routers[one].tell(other)
        if message is None:
            return False
        way.append(message)
        return True

    def arrive(self, one, other):
        way = self.need_way(one, other)
        if not way:
            return False
        message = way[0]
        listener = self.routers[other]
        if message[0] == "route":
            listener.hear(one, message[1])
        else:
            listener.gone(one, message[1])
        # Taken off the way only now: a message that the listener refuses is still there.
        way.pop(0)
        return True

    def carry_all(self, one, other):
        if self.may_send(one, other):
            self.ways[(one, other)].extend(self.routers[one].tell_all(other))
        # What was on the way before still arrives, whoever is down at the sender now.
        while self.arrive(one, other):
            pass

    def settle(self):
        while not self.is_resting():
            for way in sorted(self.ways):
                self.carry_all(way[0], way[1])

    def is_resting(self):
        for way in self.ways:
            if self.ways[way] or self.has_due(way[0], way[1]):
                return False
        return True
