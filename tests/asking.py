"""Calls by their names, answers taken apart call by call, and an island told over again to hold them against."""

from chameleons.island import answers

GREATEST = 4294967295


def begins(k):
    return [0, k]


def rule(a, b, c, d):
    return [1, a, b, c, d]


def old():
    return [2]


def are(*stand):
    return [3, len(stand), *stand]


def meet(a, b):
    return [4, a, b]


def may():
    return [5]


def to(*stand):
    return [6, len(stand), *stand]


def one(colour):
    return [7, colour]


def comes():
    return [8]


def rests():
    return [9]


def always(*stand):
    return [10, len(stand), *stand]


def kept(m):
    return [11, m]


def ask(*calls):
    """One answer (a list) for each call, all about one new island."""
    flat = [number for call in calls for number in call]
    given = answers(flat)
    apart = []
    at = 0
    while at < len(given):
        end = at + 1 + given[at]
        apart.append(given[at + 1:end])
        at = end
    if at != len(given) or len(apart) != len(calls):
        raise AssertionError(f"{len(calls)} calls, but the answers are {given}")
    return apart


def last(*calls):
    """The answer to the last of the calls."""
    return ask(*calls)[-1]


def stands_of(k, most):
    """Every row of k numbers that are at most so many together."""
    if k == 0:
        return [()]
    return [(first, *rest) for first in range(most + 1) for rest in stands_of(k - 1, most - first)]


def pairs_of(k):
    return [(a, b) for a in range(k) for b in range(a, k)]


def some_rules(k, number):
    """The rule of k colours that this number tells; every rule has its number."""
    pairs = pairs_of(k)
    becomes = {}
    for pair in pairs:
        number, place = divmod(number, len(pairs))
        becomes[pair] = pairs[place]
    return becomes


def many_rules(k, step):
    """The rules of k colours that the numbers tell, a step between one and the next."""
    return [some_rules(k, number) for number in range(0, len(pairs_of(k)) ** len(pairs_of(k)), step)]


def rule_calls(becomes):
    return [rule(*pair, *changed) for pair, changed in becomes.items()]


def steps_from(becomes, stand):
    """Each possible meeting, in order, with the stand behind it."""
    steps = []
    for pair in sorted(becomes):
        left = list(stand)
        for colour in pair:
            left[colour] -= 1
        if min(left) >= 0 and becomes[pair] != pair:
            for colour in becomes[pair]:
                left[colour] += 1
            steps.append((pair, tuple(left)))
    return steps


def how_far(becomes, stand):
    """For each stand with as many chameleons, from which this one can come: in how few meetings.

    It is reckoned from the end backwards, over all the stands there are, again and again.
    """
    stands = [other for other in stands_of(len(stand), sum(stand)) if sum(other) == sum(stand)]
    steps = {other: steps_from(becomes, other) for other in stands}
    far = {stand: 0}
    meetings = 0
    while meetings in far.values():
        meetings += 1
        known = dict(far)
        for other in stands:
            if other not in far and any(behind in known for pair, behind in steps[other]):
                far[other] = meetings
    return far


def first_way(becomes, stand, wanted):
    """The meetings, in their first order, of a shortest way; None if there is no way."""
    far = how_far(becomes, wanted)
    if stand not in far:
        return None
    way = []
    while stand != wanted:
        nearer = [(pair, behind) for pair, behind in steps_from(becomes, stand)
                  if far.get(behind, GREATEST) < far[stand]]
        way.append(nearer[0][0])
        stand = nearer[0][1]
    return way


def what_can_come(becomes, stand):
    """Every stand that can come, sorted."""
    found = {stand}
    new = {stand}
    while new:
        new = {behind for now in new for pair, behind in steps_from(becomes, now)} - found
        found |= new
    return sorted(found)
