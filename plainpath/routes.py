"""Routes and rules: their bounds, and how a list of rules judges a route.

A route is (prefix, path, weight, tags).
A rule is (prefix, longest, number, tag, deed, prefer, add, take, ahead).
"""

from plainpath.errors import BadRoute, BadRule

MOST_SIGNS = 16
MOST_STEPS = 12
MOST_TAGS = 4
GREATEST_NUMBER = 999
GREATEST_WEIGHT = 1000
GREATEST_TAG = 99
GREATEST_PREFERENCE = 1000
FIRST_PREFERENCE = 100
DEEDS = ("no", "yes", "on")

# Of each whole number that a rule always has: its place in the rule, its name, the greatest that it may be.
RULE_NUMBERS = (
    (1, "longest", 16),
    (2, "number", 999),
    (3, "tag", 99),
    (6, "add", 99),
    (7, "take", 99),
    (8, "ahead", 3),
)


def is_prefix(text):
    return len(text) <= MOST_SIGNS and all([sign in ("0", "1") for sign in text])


def is_path(path):
    return 1 <= len(path) <= MOST_STEPS and all([1 <= number <= GREATEST_NUMBER for number in path])


def are_tags(tags):
    if len(tags) > MOST_TAGS:
        return False
    # Starting below the least tag lets one comparison ask for both the lower bound and the rise.
    last = 0
    for tag in tags:
        if not last < tag <= GREATEST_TAG:
            return False
        last = tag
    return True


def need_prefix(prefix):
    if not is_prefix(prefix):
        raise BadRoute("the prefix is not of 0 to 16 signs 0 and 1")


def need_route(route):
    need_prefix(route[0])
    if not is_path(route[1]):
        raise BadRoute("the path is not of 1 to 12 numbers 1 to 999")
    if not 0 <= route[2] <= GREATEST_WEIGHT:
        raise BadRoute("the weight is not 0 to 1000")
    if not are_tags(route[3]):
        raise BadRoute("the tags are not at most 4 rising numbers 1 to 99")


def need_rule(rule):
    if not is_prefix(rule[0]):
        raise BadRule("the prefix is not of 0 to 16 signs 0 and 1")
    for place, name, greatest in RULE_NUMBERS:
        if not 0 <= rule[place] <= greatest:
            raise BadRule(f"{name} is not 0 to {greatest}")
    if rule[4] not in DEEDS:
        raise BadRule("the deed is not no, yes or on")
    if rule[5] is not None and not 0 <= rule[5] <= GREATEST_PREFERENCE:
        raise BadRule("prefer is not None or 0 to 1000")


def holds(prefix, text):
    return text.startswith(prefix)


def fits(rule, route):
    prefix = route[0]
    number = rule[2]
    tag = rule[3]
    if not holds(rule[0], prefix) or len(prefix) > rule[1]:
        return False
    if number != 0 and number not in route[1]:
        return False
    return tag == 0 or tag in route[3]


def changed_tags(tags, add, take):
    # Taking out first makes room for what is put in.
    kept = [tag for tag in tags if tag != take]
    if add != 0 and add not in kept and len(kept) < MOST_TAGS:
        kept = sorted(kept + [add])
    return tuple(kept)


def judged(rules, route):
    preference = FIRST_PREFERENCE
    ahead = 0
    # Each rule is asked of the route as the rules before it left it, not as it was handed in.
    current = route
    for rule in rules:
        if not fits(rule, current):
            continue
        deed = rule[4]
        if deed == "no":
            return None
        current = (current[0], current[1], current[2], changed_tags(current[3], rule[6], rule[7]))
        if rule[5] is not None:
            preference = rule[5]
        ahead += rule[8]
        if deed == "yes":
            break
    return (current, preference, ahead)
