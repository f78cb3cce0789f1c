"""Many lines against a model that goes hour by hour, and what the document says always holds."""

import itertools
import random
import unittest

from tests.helper import (FAR, ask, at, begin, busy, changes_nothing, drop, fewest, first, firstwith, go_to, hours,
                          left, longer, look, lot, may, meets, most, mostof, peak, plan, ready, state, sums, tank,
                          tankof, together)

NAMES = ("begin", "lot", "drop", "longer", "tank", "hours", "fewest", "peak", "at", "plan", "tankof", "most", "mostof",
         "together", "meets", "may", "first", "firstwith", "ready", "left", "busy", "look", "sums", "state")
# The refusals of each call, besides -11; a call that isn't here has no other.
REFUSALS = {"begin": (-22,), "lot": (-22, -16, -12, -28, -33), "drop": (-2,), "longer": (-2, -22, -17, -33),
            "tank": (-28,), "hours": (-22, -75), "peak": (-22, -2), "at": (-22,), "tankof": (-2,), "most": (-22,),
            "mostof": (-22, -2), "together": (-22, -2), "meets": (-2,), "may": (-22,), "first": (-22,),
            "firstwith": (-22,), "left": (-2,), "look": (-2,)}


class Model:
    """Keeps for each lot the hours in which it lies, one by one, and has no reckoning in common with the program."""

    def __init__(self):
        self.lots = None

    def answer(self, call):
        name = NAMES[call[0]]
        if name != "begin" and self.lots is None:
            return [-11]
        told = call[1:]
        if name in ("peak", "together"):
            told = [call[2:]]
        if name == "mostof":
            told = [call[1], call[3:]]
        return getattr(self, name)(*told)

    def begin(self, tanks, need):
        if tanks not in range(1, 7) or need not in range(1, 501):
            return [-22]
        self.tanks, self.need, self.now, self.ever, self.lots, self.crates = tanks, need, 0, 0, {}, {}
        return [0]

    def count(self, hour, told=None):
        return sum(hour in self.lots[l] for l in (self.lots if told is None else told))

    def peak_of(self, told):
        return max([self.count(hour, told) for l in told for hour in self.lots[l]], default=0)

    def ended(self, l):
        return max(self.lots[l]) < self.now

    def lot(self, h, n, crates):
        if h > 10000 or n not in range(1, 501) or crates not in range(1, 1001):
            return [-22]
        if h < self.now:
            return [-16]
        if n < self.need:
            return [-12]
        if len(self.lots) == 12 or self.ever == 60:
            return [-28]
        if any(self.count(hour) >= self.tanks for hour in range(h, h + n)):
            return [-33]
        self.lots[self.ever], self.crates[self.ever] = set(range(h, h + n)), crates
        self.ever += 1
        return [self.ever - 1]

    def drop(self, l):
        if l not in self.lots:
            return [-2]
        answer = [self.crates[l], int(self.ended(l))]
        del self.lots[l]
        return answer

    def longer(self, l, n):
        if l not in self.lots:
            return [-2]
        if n not in range(1, 501):
            return [-22]
        if self.ended(l):
            return [-17]
        before = self.lots[l]
        end = max(before) + 1 + n
        self.lots[l] = before | set(range(max(before), end))
        if self.peak_of(list(self.lots)) > self.tanks:
            self.lots[l] = before
            return [-33]
        return [end]

    def tank(self):
        if self.tanks == 6:
            return [-28]
        self.tanks += 1
        return [self.tanks]

    def hours(self, n):
        if n not in range(1, 501):
            return [-22]
        if self.now + n > 10000:
            return [-75]
        before = sum(self.ended(l) for l in self.lots)
        self.now += n
        return [self.now, sum(self.ended(l) for l in self.lots) - before]

    def fewest(self):
        return [self.peak_of(list(self.lots))]

    def refused(self, told):
        if len(told) > 12 or any(told.count(l) > 1 for l in told):
            return [-22]
        if any(l not in self.lots for l in told):
            return [-2]
        return []

    def peak(self, told):
        return self.refused(told) or [self.peak_of(told)]

    def at(self, h):
        if h > 10000:
            return [-22]
        there = [l for l in range(60) if h in self.lots.get(l, ())]
        return [len(there), *there]

    def places(self):
        placed = {}
        for l in sorted(self.lots, key=lambda l: (min(self.lots[l]), l)):
            met = {placed[other] for other in placed if self.lots[other] & self.lots[l]}
            placed[l] = min(set(range(13)) - met)
        return placed

    def plan(self):
        return [len(self.lots), *itertools.chain(*self.places().items())]

    def tankof(self, l):
        return [self.places()[l]] if l in self.lots else [-2]

    def taken(self, k, told):
        taken = []
        for l in sorted(told, key=lambda l: (max(self.lots[l]), l)):
            if self.peak_of(taken + [l]) <= k:
                taken.append(l)
        return [len(taken), *sorted(taken)]

    def most(self, k):
        return [-22] if k > 6 else self.taken(k, self.lots)

    def mostof(self, k, told):
        return [-22] if k > 6 else self.refused(told) or self.taken(k, told)

    def together(self, told):
        pairs = itertools.combinations(told, 2)
        return self.refused(told) or [int(all(self.lots[one].isdisjoint(self.lots[other]) for one, other in pairs))]

    def meets(self, l):
        if l not in self.lots:
            return [-2]
        met = [other for other in range(60) if other != l and self.lots[l] & self.lots.get(other, set())]
        return [len(met), *met]

    def may(self, h, n):
        if h > 10000 or n not in range(1, 501):
            return [-22]
        return [int(all(self.count(hour) < self.tanks for hour in range(h, h + n)))]

    def first(self, h, n):
        return self.firstwith(self.tanks, h, n)

    def firstwith(self, k, h, n):
        if h > 10000 or n not in range(1, 501) or k not in range(1, 7):
            return [-22]
        free = 0
        while free < n:
            free = free + 1 if self.count(h) < k else 0
            h += 1
        return [h - n]

    def ready(self):
        ended = [l for l in range(60) if l in self.lots and self.ended(l)]
        return [len(ended), *ended]

    def left(self, l):
        return [len([hour for hour in self.lots[l] if hour >= self.now])] if l in self.lots else [-2]

    def busy(self):
        spans = self.lots.values()
        return [sum(len(span) for span in spans), max([max(span) + 1 for span in spans], default=0)]

    def look(self, l):
        if l not in self.lots:
            return [-2]
        return [min(self.lots[l]), max(self.lots[l]) + 1, self.crates[l], int(self.now in self.lots[l])]

    def sums(self):
        return [0, len(self.lots), sum(self.crates[l] for l in self.lots), self.count(self.now)]

    def state(self):
        return [0, self.now, self.tanks, self.need, self.ever]


def some_call(chance, early, widest):
    """A call that's mostly in range, among few hours, so that lots come to meet, end alike and follow at once."""
    number = chance.randrange(28)
    l = chance.choice(list(range(14)) + [59, FAR])
    n = chance.choice(list(range(1, widest)) * 3 + [0, 500, 501, FAR])
    h = chance.choice(list(range(early, early + 3 * widest)) * 3 + [10000, 10001, FAR])
    k = chance.choice([0, 1, 2, 3, 4, 5, 6, 6, 7, FAR])
    row = [chance.randrange(9) for each in range(chance.choice([0, 1, 2, 2, 3, 4, 12, 13, 40]))]
    if chance.randrange(2):
        row = sorted(set(row))
    if number == 0 and chance.randrange(6):
        number = 1
    if number == 5 and chance.randrange(3):
        n = chance.choice([1, 2])
    calls = (begin(chance.randrange(8), chance.choice([1, 1, 2, 3, 500, 501, 0])),
             lot(h, n, chance.choice([1, 7, 1000])), drop(l), longer(l, n), tank(), hours(n), fewest(),
             peak(*row), at(h), plan(), tankof(l), most(k), mostof(k, *row), together(*row), meets(l), may(h, n),
             first(h, n), firstwith(k, h, n), ready(), left(l), busy(), look(l), sums(), state(),
             lot(h, n, chance.choice([0, 1, 2, 3, 1001, FAR])), lot(h, n, 5), lot(h, n, 6), lot(h, n, 9))
    return calls[number]


def some_line(chance):
    widest = chance.choice([3, 6, 12])
    early = chance.choice([0, 0, 0, 9980])
    first = [begin(chance.randrange(1, 7), chance.choice([1, 2]))] + go_to(early) if chance.randrange(8) else []
    count = min(chance.choice([5, 30, 120, 255]), 256 - len(first))
    return first + [some_call(chance, early, widest) for each in range(count)]


def some_lots(chance):
    """Calls that tell some lots, with tanks enough or not, behind a begin."""
    calls = [begin(chance.randrange(1, 7), 1)]
    calls += [lot(chance.randrange(10), chance.randrange(1, 7)) for each in range(chance.randrange(9))]
    return calls


def spans_told(calls):
    """The hours of the lots that were taken up, by their numbers."""
    spans = {}
    for call, answer in zip(calls[1:], ask(*calls)[1:]):
        if answer[0] >= 0:
            spans[answer[0]] = set(range(call[1], call[1] + call[2]))
    return spans


def can_be_given(spans, tanks, given=()):
    """Whether these lots can be given so many tanks, no two that meet the same one, by trying all."""
    if len(given) == len(spans):
        return True
    here = spans[len(given)]
    for tank_tried in range(tanks):
        if not any(tank_tried == other and here & spans[l] for l, other in enumerate(given)):
            if can_be_given(spans, tanks, given + (tank_tried,)):
                return True
    return False


class AgainstTheModel(unittest.TestCase):
    def test_many_lines(self):
        chance = random.Random(60)
        seen = {}
        for each in range(500):
            line = some_line(chance)
            model = Model()
            expected = [model.answer(call) for call in line]
            got = ask(*line)
            self.assertEqual(got, expected, line)
            for call, answer in zip(line, got):
                seen[(NAMES[call[0]], min(answer[0], 0))] = True
        # The lines are worth something only if each call was answered and refused in every way.
        expected = [(name, way) for name in NAMES for way in REFUSALS.get(name, ()) + (0, -11)]
        expected.remove(("begin", -11))
        self.assertEqual(sorted(seen), sorted(expected))

    def test_what_is_refused_or_looks_changes_nothing(self):
        chance = random.Random(5)
        looks = NAMES[6:]
        for each in range(150):
            setup = [begin(chance.randrange(1, 7), 1)] + [some_call(chance, 0, 6) for each_call in range(25)]
            setup = [call for call in setup if call[0] or call[2] in (0, 1, 501)]
            tried = [some_call(chance, 0, 6) for each_call in range(25)]
            answered = [ask(*setup, call)[-1][0] for call in tried]
            tried = [call for call, answer in zip(tried, answered) if answer < 0 or NAMES[call[0]] in looks]
            self.assertTrue(changes_nothing(setup, 1, *tried))


class WhatHolds(unittest.TestCase):
    def test_as_many_tanks_as_lie_at_once_are_enough_and_fewer_are_not(self):
        chance = random.Random(1)
        for each in range(300):
            calls = some_lots(chance)
            spans = list(spans_told(calls).values())
            enough = ask(*calls, fewest())[-1][0]
            self.assertTrue(can_be_given(spans, enough))
            self.assertFalse(enough and can_be_given(spans, enough - 1))

    def test_by_the_plan_no_two_that_meet_lie_in_one_tank(self):
        chance = random.Random(2)
        for each in range(300):
            calls = some_lots(chance)
            spans = spans_told(calls)
            told, enough = ask(*calls, plan(), fewest())[-2:]
            places = dict(zip(told[1::2], told[2::2]))
            self.assertEqual(sorted(places), sorted(spans))
            self.assertEqual(len(set(places.values())), enough[0])
            self.assertTrue(all(place < enough[0] for place in places.values()))
            for one, other in itertools.combinations(spans, 2):
                self.assertFalse(places[one] == places[other] and spans[one] & spans[other])
            self.assertEqual(ask(*calls, *[tankof(l) for l in places])[len(calls):], [[p] for p in places.values()])

    def test_so_many_tanks_take_no_more_lots_than_told(self):
        chance = random.Random(3)
        for each in range(150):
            calls = some_lots(chance)
            spans = spans_told(calls)
            counts = [answer[0] for answer in ask(*calls, *[most(k) for k in range(7)])[len(calls):]]
            self.assertEqual(counts, sorted(counts))
            for k in range(7):
                sizes = [size for size in range(len(spans) + 1) if self.so_many_fit(spans, size, k)]
                self.assertEqual(counts[k], max(sizes))

    def so_many_fit(self, spans, size, k):
        return any(self.fits(chosen, k) for chosen in itertools.combinations(spans.values(), size))

    def fits(self, chosen, k):
        return all(sum(hour in span for span in chosen) <= k for hour in range(20))

    def test_never_more_at_once_than_tanks(self):
        chance = random.Random(4)
        for each in range(200):
            tanks = chance.randrange(1, 5)
            calls = [begin(tanks, 1)]
            for each_call in range(30):
                h, n, l = chance.randrange(12), chance.randrange(1, 6), chance.randrange(12)
                calls.append(chance.choice([lot(h, n), lot(h, n), longer(l, n), drop(l)]))
                calls.append(fewest())
            self.assertTrue(all(answer[0] <= tanks for answer in ask(*calls)[2::2]))

    def test_told_it_may_it_is_not_refused(self):
        chance = random.Random(6)
        told = {0: 0, 1: 0}
        for each in range(400):
            need = chance.choice([1, 2, 3])
            calls = [begin(chance.randrange(1, 4), need), hours(chance.randrange(1, 5))]
            for each_call in range(11):
                calls += [lot(chance.randrange(14), chance.randrange(1, 9)), longer(chance.randrange(12), 1)]
            now = ask(*calls, state())[-1][1]
            for each_call in range(10):
                h, n = chance.randrange(now, 20), chance.randrange(need, 10)
                answer, number = ask(*calls, may(h, n), lot(h, n))[-2:]
                told[answer[0]] += 1
                self.assertEqual(number[0] >= 0, answer == [1])
                self.assertTrue(number[0] >= 0 or number == [-33])
        self.assertTrue(min(told.values()) > 500)

    def test_told_it_may_at_the_edges(self):
        late = [begin(1, 500), *go_to(10000)]
        eleven = [begin(1, 3)] + [lot(3 * l, 3) for l in range(11)]
        ever = [begin(1, 3)] + [call for l in range(59) for call in (lot(0, 3), drop(l))]
        for setup, h, n in ((late, 10000, 500), (eleven, 33, 3), (ever, 0, 3), ([begin(1, 3), lot(3, 3)], 0, 3),
                            ([begin(1, 3), lot(3, 3), hours(6)], 6, 3), ([begin(1, 3), lot(3, 3)], 6, 3)):
            answer, number = ask(*setup, may(h, n), lot(h, n))[-2:]
            self.assertEqual(answer, [1])
            self.assertGreaterEqual(number[0], 0)
        for setup, h, n in ((late + [lot(10000, 500)], 10000, 500), (eleven, 32, 3), ([begin(1, 3), lot(3, 3)], 0, 4),
                            ([begin(1, 3), lot(3, 3), hours(5)], 5, 3), ([begin(1, 3), lot(3, 3)], 1, 3)):
            self.assertEqual(ask(*setup, may(h, n), lot(h, n))[-2:], [[0], [-33]])

    def test_the_first_hour_is_not_refused_and_none_before_it_is_free(self):
        chance = random.Random(7)
        for each in range(200):
            calls = some_lots(chance)
            h, n = chance.randrange(18), chance.randrange(1, 9)
            found = ask(*calls, first(h, n))[-1][0]
            self.assertGreaterEqual(found, h)
            self.assertEqual(ask(*calls, *[may(hour, n) for hour in range(h, found + 1)])[len(calls):],
                             [[0]] * (found - h) + [[1]])
            self.assertGreaterEqual(ask(*calls, lot(found, n))[-1][0], 0)

    def test_with_a_tank_more_no_fewer_are_taken_and_nothing_is_free_later(self):
        chance = random.Random(8)
        for each in range(300):
            calls = some_lots(chance)
            there = [l for l in spans_told(calls) if chance.randrange(3)]
            h, n = chance.randrange(18), chance.randrange(1, 9)
            looks = [call for k in range(1, 7) for call in (most(k), mostof(k, *there), firstwith(k, h, n))]
            got = [answer[0] for answer in ask(*calls, most(0), mostof(0, *there), *looks)[len(calls):]]
            self.assertEqual(got[:2], [0, 0])
            self.assertEqual(got[2::3], sorted(got[2::3]))
            self.assertEqual(got[3::3], sorted(got[3::3]))
            self.assertEqual(got[4::3], sorted(got[4::3], reverse=True))

    def test_a_tank_more_there_is_as_one_more_asked(self):
        chance = random.Random(9)
        for each in range(100):
            calls = some_lots(chance)
            tanks = calls[0][1]
            h, n = chance.randrange(18), chance.randrange(1, 9)
            if tanks < 6:
                asked, had = ask(*calls, firstwith(tanks + 1, h, n), tank(), first(h, n))[-3::2]
                self.assertEqual(asked, had)


if __name__ == "__main__":
    unittest.main()
