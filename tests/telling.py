"""What the tests share: terms, clauses and calls as they are told, and answers call by call."""

from pickedletters.process import answers

ANYTHING = [4]
TOP = 4294967295


def number(n):
    return [0, n]


def word(n):
    return [1, n]


def token(n):
    return [2, n]


def row(*parts):
    return [3, len(parts)] + sum(parts, [])


def name(n):
    return [5, n]


def nested(deep, inmost):
    """inmost in so many rows of one term that all of it is so deep."""
    return [3, 1] * (deep - 1) + inmost


def clause(pattern, *tests):
    return pattern + [len(tests)] + [n for test in tests for n in test]


def begin():
    return [0]


def send(term):
    return [1, len(term)] + term


def receive(ends, ticks, *clauses):
    told = sum(clauses, [])
    return [2, ends, ticks, len(told)] + told


def take(*clauses):
    """A receive that never waits."""
    return receive(1, 0, *clauses)


def ticks(n):
    return [3, n]


def stop():
    return [4]


def make():
    """The call that makes a token; token(n) is the term."""
    return [5]


def names():
    return [6]


def forget(n):
    return [7, n]


def box():
    return [8]


def counts():
    return [9]


# Calls that change nothing and together tell nearly all.
SEEN = [names(), box(), counts()]


def values(**told):
    """What names answers if just these have a value: values(n0=number(1))."""
    assert set(told) <= {f"n{n}" for n in range(10)}, told
    return sum([told.get(f"n{n}", [9]) for n in range(10)], [])


def letters(*terms):
    """What box answers if just these are there."""
    return [len(terms)] + sum(terms, [])


def split(given):
    """The answers one by one, out of the list in which each stands behind its length."""
    parts = []
    place = 0
    while place < len(given):
        end = place + 1 + given[place]
        parts.append(given[place + 1:end])
        assert len(parts[-1]) == given[place] > 0, given
        place = end
    return parts


def ask_long(*calls):
    """As ask, but with more calls than are handed in: what can't come up within 60 is seen only so."""
    return split(answers(sum(calls, [])))


def ask(*calls):
    """Each call's answer; a refusal or 0 or 2 as a list of one number."""
    assert 1 <= len(calls) <= 60, "no more calls than a list may have"
    return ask_long(*calls)


def last(*calls):
    return ask(*calls)[-1]
