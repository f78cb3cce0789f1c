"""Calls written as the interface asks for them, and answers taken apart again."""

from cleaningtanks.tanks import answers

FAR = 4294967295


def begin(tanks, need):
    return [0, tanks, need]


def lot(h, n, crates=1):
    return [1, h, n, crates]


def drop(l):
    return [2, l]


def longer(l, n):
    return [3, l, n]


def tank():
    return [4]


def hours(n):
    return [5, n]


def fewest():
    return [6]


def peak(*lots):
    return [7, len(lots), *lots]


def at(h):
    return [8, h]


def plan():
    return [9]


def tankof(l):
    return [10, l]


def most(k):
    return [11, k]


def mostof(k, *lots):
    return [12, k, len(lots), *lots]


def together(*lots):
    return [13, len(lots), *lots]


def meets(l):
    return [14, l]


def may(h, n):
    return [15, h, n]


def first(h, n):
    return [16, h, n]


def firstwith(k, h, n):
    return [17, k, h, n]


def ready():
    return [18]


def left(l):
    return [19, l]


def busy():
    return [20]


def look(l):
    return [21, l]


def sums():
    return [22]


def state():
    return [23]


def taken_apart(given):
    apart = []
    place = 0
    while place < len(given):
        count = given[place]
        apart.append(given[place + 1:place + 1 + count])
        place += 1 + count
    return apart


def ask(*calls):
    """The answer of each call, as a list of lists."""
    given = answers([number for call in calls for number in call])
    assert isinstance(given, list)
    assert all(type(number) is int for number in given)
    apart = taken_apart(given)
    assert len(apart) == len(calls)
    assert all(apart)
    assert all(answer[0] >= 0 or len(answer) == 1 for answer in apart)
    assert all(number >= 0 for answer in apart for number in answer[1:])
    return apart


def last(*calls):
    return ask(*calls)[-1]


def go_to(hour):
    """Calls after which it's that hour, from hour 0 on."""
    return [hours(500)] * (hour // 500) + ([hours(hour % 500)] if hour % 500 else [])


def probe(need):
    """Calls whose answers tell all that an object keeps: first looks, then acts."""
    calls = [state(), sums(), busy(), ready(), plan(), fewest()] + [look(l) for l in range(15)]
    calls += [most(k) for k in range(7)] + [at(h) for h in range(0, 30)]
    calls += [hours(1), lot(10000, need - 1 or 501), lot(10000, need)]
    calls += [longer(l, 1) for l in range(15)] + [tank()] * 6
    calls += [drop(l) for l in range(70)] + [lot(10000, need), state(), sums()]
    return calls


def every_call():
    """Each call in turn, by its number, with arguments in their ranges."""
    return [begin(2, 3), lot(0, 5), drop(0), longer(0, 5), tank(), hours(1), fewest(), peak(), at(0), plan(),
            tankof(0), most(1), mostof(1), together(), meets(0), may(0, 5), first(0, 5), firstwith(1, 0, 5), ready(),
            left(0), busy(), look(0), sums(), state()]


def changes_nothing(setup, need, *calls):
    """Whether the object is, behind these calls, as it was behind the setup."""
    with_calls = ask(*setup, *calls, *probe(need))
    return with_calls[len(setup) + len(calls):] == ask(*setup, *probe(need))[len(setup):]
