"""Point 4: ready, left, busy, look, sums, state."""

import unittest

from tests.helper import (FAR, ask, begin, busy, changes_nothing, drop, go_to, hours, last, left, longer, look, lot,
                          ready, state, sums, tank)

# 0 lies 2 to 5, 1 lies 4 to 5, 2 lies 6 to 8.
THREE = [begin(2, 1), lot(2, 4, 10), lot(4, 2, 200), lot(6, 3, 1000)]


def at_each_hour(setup, *calls):
    """What these calls answer in hour 0, in hour 1, and so on up to hour 10."""
    line = list(setup)
    for hour in range(11):
        line += [*calls, hours(1)]
    apart = ask(*line)[len(setup):]
    return [apart[place:place + len(calls)] for place in range(0, len(apart), len(calls) + 1)]


class Ready(unittest.TestCase):
    def test_no_lots(self):
        self.assertEqual(ask(begin(1, 1), ready(), hours(500), ready())[1:], [[0], [500, 0], [0]])

    def test_at_each_hour(self):
        got = [answer for answer, in at_each_hour(THREE, ready())]
        self.assertEqual(got, [[0]] * 6 + [[2, 0, 1]] * 3 + [[3, 0, 1, 2]] * 2)

    def test_by_numbers_not_as_they_end(self):
        setup = [begin(3, 1), lot(5, 4), lot(0, 3), lot(1, 4)]
        self.assertEqual(ask(*setup, hours(3), ready(), hours(2), ready(), hours(4), ready())[4:],
                         [[3, 1], [1, 1], [5, 1], [2, 1, 2], [9, 1], [3, 0, 1, 2]])

    def test_after_lots_were_dropped(self):
        self.assertEqual(ask(*THREE, drop(0), hours(6), ready(), drop(1), ready(), hours(9), ready())[4:],
                         [[10, 0], [6, 1], [1, 1], [200, 1], [0], [15, 1], [1, 2]])

    def test_one_that_is_longer_is_not_ready(self):
        self.assertEqual(ask(*THREE, longer(0, 1), hours(6), ready(), hours(1), ready())[4:],
                         [[7], [6, 1], [1, 1], [7, 1], [2, 0, 1]])

    def test_twelve(self):
        setup = [begin(1, 1)] + [lot(h, 1) for h in range(12)]
        self.assertEqual(ask(*setup, hours(11), ready(), hours(1), ready())[14:],
                         [[11, *range(11)], [12, 1], [12, *range(12)]])


class Left(unittest.TestCase):
    def test_at_each_hour(self):
        got = at_each_hour(THREE, left(0), left(1), left(2))
        self.assertEqual([zero for (zero,), one, two in got], [4, 4, 4, 3, 2, 1, 0, 0, 0, 0, 0])
        self.assertEqual([one for zero, (one,), two in got], [2, 2, 2, 2, 2, 1, 0, 0, 0, 0, 0])
        self.assertEqual([two for zero, one, (two,) in got], [3, 3, 3, 3, 3, 3, 3, 2, 1, 0, 0])

    def test_one_that_begins_now(self):
        self.assertEqual(last(begin(1, 1), lot(0, 500), left(0)), [500])
        self.assertEqual(last(begin(1, 1), hours(7), lot(7, 5), left(0)), [5])

    def test_after_it_was_made_longer(self):
        self.assertEqual(ask(*THREE, longer(0, 3), left(0), hours(5), left(0), hours(4), left(0))[4:],
                         [[9], [7], [5, 0], [4], [9, 3], [0]])

    def test_at_the_last_hour_of_all(self):
        setup = [begin(1, 1), *go_to(10000), lot(10000, 500)]
        self.assertEqual(ask(*setup, left(0), longer(0, 500), left(0))[len(setup):], [[500], [11000], [1000]])
        self.assertEqual(last(begin(1, 1), lot(9990, 11), *go_to(10000), left(0)), [1])
        self.assertEqual(last(begin(1, 1), lot(9990, 10), *go_to(10000), left(0)), [0])

    def test_no_such_lot_any_more(self):
        for l in (3, 59, 60, 65535, FAR):
            self.assertEqual(last(*THREE, left(l)), [-2])
        self.assertEqual(ask(*THREE, drop(1), left(1), left(2))[5:], [[-2], [3]])
        self.assertEqual(last(*THREE, hours(9), drop(0), left(0)), [-2])
        self.assertEqual(last(begin(1, 1), left(0)), [-2])


class Busy(unittest.TestCase):
    def test_no_lots(self):
        self.assertEqual(ask(begin(1, 1), busy(), lot(0, 1), drop(0), busy(), hours(9), busy())[1:],
                         [[0, 0], [0], [1, 0], [0, 0], [9, 0], [0, 0]])

    def test_all_their_hours_and_the_last_end(self):
        self.assertEqual(last(*THREE, busy()), [9, 9])
        self.assertEqual(last(begin(3, 1), lot(0, 500), lot(10, 20), lot(3, 7), busy()), [527, 500])
        self.assertEqual(last(begin(6, 1), *[lot(7, 5) for l in range(6)], busy()), [30, 12])
        self.assertEqual(last(begin(6, 1), *[lot(10000, 500) for l in range(6)], busy()), [3000, 10500])

    def test_after_hours_went_by(self):
        self.assertEqual([answer for answer, in at_each_hour(THREE, busy())], [[9, 9]] * 11)

    def test_after_lots_were_dropped(self):
        self.assertEqual(ask(*THREE, drop(2), busy(), hours(6), drop(0), busy(), drop(1), busy())[4:],
                         [[1000, 0], [6, 6], [6, 2], [10, 1], [2, 6], [200, 1], [0, 0]])

    def test_after_one_was_made_longer(self):
        self.assertEqual(ask(*THREE, longer(0, 2), busy(), longer(0, 2), busy(), longer(1, 1), busy())[4:],
                         [[8], [11, 9], [10], [13, 10], [-33], [13, 10]])


class Look(unittest.TestCase):
    def test_each_lot(self):
        self.assertEqual(ask(*THREE, look(0), look(1), look(2))[4:], [[2, 6, 10, 0], [4, 6, 200, 0], [6, 9, 1000, 0]])

    def test_whether_it_lies_at_each_hour(self):
        got = at_each_hour(THREE, look(0), look(1), look(2))
        for l, span in enumerate((range(2, 6), range(4, 6), range(6, 9))):
            self.assertEqual([answers[l][3] for answers in got], [int(hour in span) for hour in range(11)])
            self.assertTrue(all(answers[l][:3] == [span.start, span.stop, (10, 200, 1000)[l]] for answers in got))

    def test_the_ends_of_the_ranges(self):
        self.assertEqual(last(begin(1, 1), lot(0, 1, 1), look(0)), [0, 1, 1, 1])
        self.assertEqual(last(begin(1, 1), lot(10000, 500, 1000), look(0)), [10000, 10500, 1000, 0])
        self.assertEqual(last(begin(1, 1), lot(10000, 500, 1000), *go_to(10000), look(0)), [10000, 10500, 1000, 1])

    def test_after_it_was_made_longer(self):
        self.assertEqual(ask(*THREE, longer(0, 3), look(0), hours(8), look(0), hours(1), look(0))[4:],
                         [[9], [2, 9, 10, 0], [8, 1], [2, 9, 10, 1], [9, 2], [2, 9, 10, 0]])

    def test_no_such_lot_any_more(self):
        for l in (3, 59, 60, 65535, FAR):
            self.assertEqual(last(*THREE, look(l)), [-2])
        self.assertEqual(ask(*THREE, drop(1), look(1), look(2))[5:], [[-2], [6, 9, 1000, 0]])
        self.assertEqual(last(begin(1, 1), look(0)), [-2])


class Sums(unittest.TestCase):
    def test_no_lots(self):
        self.assertEqual(ask(begin(6, 500), sums(), hours(3), sums())[1:], [[0, 0, 0, 0], [3, 0], [0, 0, 0, 0]])

    def test_at_each_hour(self):
        got = [answer for answer, in at_each_hour(THREE, sums())]
        self.assertEqual(got, [[0, 3, 1210, lie] for lie in (0, 0, 1, 1, 2, 2, 1, 1, 1, 0, 0)])

    def test_after_lots_were_dropped(self):
        self.assertEqual(ask(*THREE, hours(4), sums(), drop(0), sums(), drop(2), sums(), drop(1), sums())[5:],
                         [[0, 3, 1210, 2], [10, 0], [0, 2, 1200, 1], [1000, 0], [0, 1, 200, 1], [200, 0], [0, 0, 0, 0]])

    def test_after_one_was_made_longer(self):
        self.assertEqual(ask(*THREE, longer(1, 2), hours(7), sums(), hours(1), sums())[5:],
                         [[7, 1], [0, 3, 1210, 2], [8, 1], [0, 3, 1210, 1]])

    def test_the_most_of_all(self):
        twelve = [lot(10 * (l // 6), 10, 1000) for l in range(12)]
        self.assertEqual(last(begin(6, 1), *twelve, sums()), [0, 12, 12000, 6])


class State(unittest.TestCase):
    def test_behind_begin(self):
        for tanks, need in ((1, 1), (6, 500), (3, 24)):
            self.assertEqual(last(begin(tanks, need), state()), [0, 0, tanks, need, 0])

    def test_the_hour_and_the_tanks(self):
        self.assertEqual(ask(begin(4, 7), hours(500), state(), tank(), state(), hours(1), tank(), tank(), state())[1:],
                         [[500, 0], [0, 500, 4, 7, 0], [5], [0, 500, 5, 7, 0], [501, 0], [6], [-28], [0, 501, 6, 7, 0]])
        self.assertEqual(last(begin(1, 1), *go_to(10000), hours(1), state()), [0, 10000, 1, 1, 0])

    def test_how_many_lots_there_have_been(self):
        self.assertEqual(ask(*THREE, state(), drop(0), state(), lot(0, 1), state(), hours(99), state())[4:],
                         [[0, 0, 2, 1, 3], [10, 0], [0, 0, 2, 1, 3], [3], [0, 0, 2, 1, 4], [99, 3], [0, 99, 2, 1, 4]])
        sixty = [call for l in range(60) for call in (lot(0, 1), drop(l))]
        self.assertEqual(ask(begin(1, 1), *sixty, state(), lot(0, 1), state())[-3:],
                         [[0, 0, 1, 1, 60], [-28], [0, 0, 1, 1, 60]])

    def test_refused_lots_have_not_been(self):
        self.assertEqual(last(*THREE, lot(0, 0), lot(10001, 1), lot(4, 1), lot(0, 1, 1001), state()), [0, 0, 2, 1, 3])

    def test_after_a_second_begin(self):
        self.assertEqual(ask(*THREE, hours(9), begin(0, 1), state(), begin(5, 9), state(), sums(), ready())[5:],
                         [[-22], [0, 9, 2, 1, 3], [0], [0, 0, 5, 9, 0], [0, 0, 0, 0], [0]])


class LookingChangesNothing(unittest.TestCase):
    def test_answered_or_refused(self):
        looks = [ready(), left(0), left(2), left(9), left(FAR), busy(), look(0), look(1), look(9), look(FAR), sums(),
                 state()]
        for setup in (THREE, THREE + [hours(5)], THREE + [hours(7), drop(1)]):
            for one in looks:
                self.assertTrue(changes_nothing(setup, 1, one))
            self.assertTrue(changes_nothing(setup, 1, *looks))


if __name__ == "__main__":
    unittest.main()
