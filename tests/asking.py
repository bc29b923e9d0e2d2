"""Calls by their names, and answers taken apart call by call."""

from chameleons.island import answers

GREATEST = 4294967295


def begins(k):
    return [0, k]


def rule(a, b, c, d):
    return [1, a, b, c, d]


def old():
    return [2]


def are(*stand):
    return [3, len(stand), *stand]


def meet(a, b):
    return [4, a, b]


def may():
    return [5]


def ask(*calls):
    """One answer (a list) for each call, all about one new island."""
    flat = [number for call in calls for number in call]
    given = answers(flat)
    apart = []
    at = 0
    while at < len(given):
        end = at + 1 + given[at]
        apart.append(given[at + 1:end])
        at = end
    if at != len(given) or len(apart) != len(calls):
        raise AssertionError(f"{len(calls)} calls, but the answers are {given}")
    return apart


def last(*calls):
    """The answer to the last of the calls."""
    return ask(*calls)[-1]


def stands_of(k, most):
    """Every row of k numbers that are at most so many together."""
    if k == 0:
        return [()]
    return [(first, *rest) for first in range(most + 1) for rest in stands_of(k - 1, most - first)]
