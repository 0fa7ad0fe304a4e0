"""What several tests use: rules by name, routers with neighbours, webs of some shape, and what can be seen of them."""

import unittest

from plainpath.errors import NoNeighbour
from plainpath.routers import Router
from plainpath.webs import Web

ADDRESSES = ("0" * 16, "0101" * 4, "1" * 16)

# Of each bound of [10] one route that breaks it; each path begins with 7, where there is one that can.
BAD_ROUTES = (
    ("2", (7,), 0, ()),
    ("0" * 17, (7,), 0, ()),
    ("01", (), 0, ()),
    ("01", (7,) * 13, 0, ()),
    ("01", (7, 0), 0, ()),
    ("01", (7, 1000), 0, ()),
    ("01", (7,), -1, ()),
    ("01", (7,), 1001, ()),
    ("01", (7,), 0, (2, 1)),
    ("01", (7,), 0, (1, 1)),
    ("01", (7,), 0, (0,)),
    ("01", (7,), 0, (100,)),
    ("01", (7,), 0, (1, 2, 3, 4, 5)),
)
BAD_PREFIXES = ("2", "x", " ", "01 ", "01\n", "0" * 17, "0" * 16 + "2", "10a")


def rule(prefix="", longest=16, number=0, tag=0, deed="on", prefer=None, add=0, take=0, ahead=0):
    return (prefix, longest, number, tag, deed, prefer, add, take, ahead)


REFUSE = rule(deed="no")


class RefusalTest(unittest.TestCase):
    def refuses(self, refusal, deed, *arguments):
        with self.subTest(arguments=arguments):
            with self.assertRaises(refusal) as caught:
                deed(*arguments)
            self.assertIs(type(caught.exception), refusal)


def router_with(number, *others):
    router = Router(number)
    for other in others:
        router.add(other)
        router.up(other)
    return router


def tells(router, other):
    messages = []
    message = router.tell(other)
    while message is not None:
        messages.append(message)
        message = router.tell(other)
    return messages


def seen(router, others):
    """All that can be asked of a router, and is answered without changing it."""
    due = []
    for other in others:
        try:
            due.append(router.due(other))
        except NoNeighbour:
            due.append("down")
    best = [(prefix, router.best(prefix)) for prefix in router.chosen()]
    return (best, [router.find(address) for address in ADDRESSES], due)


def web_of(numbers, lines):
    web = Web(list(numbers))
    for one, other in lines:
        web.join(one, other)
    return web


def row(size):
    return [(number, number + 1) for number in range(1, size)]


def ring(size):
    return row(size) + [(size, 1)]


def web_seen(web, numbers):
    """What each router of a web has chosen, by its number and the prefix."""
    return {
        (number, prefix): web.router(number).best(prefix)
        for number in numbers for prefix in web.router(number).chosen()
    }
