"""Point 2: fewest, peak, at, plan, tankof, meets, together."""

import unittest

from tests.helper import (FAR, ask, at, begin, changes_nothing, drop, fewest, hours, last, longer, lot, meets, peak,
                          plan, tank, tankof, together)

# Told out of their order: 0 lies 5 to 9, 1 lies 0 to 4, 2 lies 3 to 7, 3 lies 4 to 5.
FOUR = [begin(3, 1), lot(5, 5), lot(0, 5), lot(3, 5), lot(4, 2)]
TWELVE = [begin(6, 1)] + [lot(h, 2) for h in range(12)]


class Fewest(unittest.TestCase):
    def test_no_lots(self):
        self.assertEqual(ask(begin(6, 1), fewest(), lot(0, 1), drop(0), fewest())[1:], [[0], [0], [1, 0], [0]])

    def test_the_most_at_once(self):
        self.assertEqual(last(*FOUR, fewest()), [3])
        self.assertEqual(last(*FOUR, drop(3), fewest()), [2])
        self.assertEqual(last(*TWELVE, fewest()), [2])

    def test_one_begins_when_another_ends(self):
        self.assertEqual(last(begin(6, 1), lot(0, 4), lot(4, 4), lot(8, 4), fewest()), [1])
        self.assertEqual(last(begin(6, 1), lot(0, 5), lot(4, 4), lot(8, 4), fewest()), [2])

    def test_one_that_meets_two_which_do_not_meet(self):
        self.assertEqual(last(begin(6, 1), lot(0, 3), lot(5, 3), lot(0, 9), fewest()), [2])

    def test_all_begin_in_one_hour(self):
        self.assertEqual(last(begin(6, 1), *[lot(7, 1 + l) for l in range(6)], fewest()), [6])

    def test_those_that_have_ended_count(self):
        self.assertEqual(last(begin(6, 1), lot(0, 4), lot(3, 4), hours(500), fewest()), [2])

    def test_longer_into_another(self):
        self.assertEqual(last(begin(2, 1), lot(0, 4), lot(4, 4), longer(0, 1), fewest()), [2])


class Peak(unittest.TestCase):
    def test_none_told(self):
        self.assertEqual(last(*FOUR, peak()), [0])
        self.assertEqual(last(begin(1, 1), peak()), [0])

    def test_of_those_told_alone(self):
        asked = [peak(0), peak(0, 1), peak(0, 2), peak(2, 1), peak(3, 2, 1), peak(0, 3, 1), peak(0, 1, 2, 3)]
        self.assertEqual(ask(*FOUR, *asked)[5:], [[1], [1], [2], [2], [3], [2], [3]])

    def test_twelve_are_told_and_more(self):
        self.assertEqual(last(*TWELVE, peak(*range(12))), [2])
        self.assertEqual(last(*TWELVE, peak(*range(11, -1, -1))), [2])
        self.assertEqual(last(*TWELVE, peak(*range(13))), [-22])
        self.assertEqual(last(*TWELVE, peak(*range(40))), [-22])
        self.assertEqual(last(*TWELVE, peak(*range(100, 113))), [-22])
        self.assertEqual(last(*TWELVE, peak(*[65535] * 40)), [-22])

    def test_one_told_twice(self):
        self.assertEqual(last(*FOUR, peak(0, 0)), [-22])
        self.assertEqual(last(*FOUR, peak(1, 2, 3, 1)), [-22])

    def test_one_is_not_there(self):
        for told in ((4,), (0, 1, 4), (65535, 0), (0, 65535)):
            self.assertEqual(last(*FOUR, peak(*told)), [-2])
        self.assertEqual(last(*FOUR, drop(2), peak(0, 2)), [-2])
        self.assertEqual(last(*FOUR, drop(2), peak(0, 3)), [2])
        self.assertEqual(last(begin(1, 1), peak(0)), [-2])

    def test_the_refusal_told_first(self):
        self.assertEqual(last(*FOUR, peak(9, 9)), [-22])
        self.assertEqual(last(*FOUR, peak(9, 0, 0)), [-22])
        self.assertEqual(last(*FOUR, peak(0, 0, 9)), [-22])

    def test_what_stands_behind_the_row_is_read(self):
        self.assertEqual(ask(*FOUR, peak(), fewest(), peak(*range(40)), fewest(), peak(5, 6), plan(), peak(1))[5:],
                         [[0], [3], [-22], [3], [-2], [4, 1, 0, 2, 1, 3, 2, 0, 0], [1]])


class At(unittest.TestCase):
    def test_these_by_numbers(self):
        asked = [at(0), at(2), at(3), at(4), at(5), at(6), at(8), at(9), at(10)]
        self.assertEqual(ask(*FOUR, *asked)[5:], [[1, 1], [1, 1], [2, 1, 2], [3, 1, 2, 3], [3, 0, 2, 3], [2, 0, 2],
                                                  [1, 0], [1, 0], [0]])

    def test_ends_of_the_range(self):
        setup = [begin(1, 1), lot(10000, 2), lot(0, 1)]
        self.assertEqual(ask(*setup, at(0), at(1), at(9999), at(10000), at(10001), at(FAR))[3:],
                         [[1, 1], [0], [0], [1, 0], [-22], [-22]])

    def test_hours_that_are_over(self):
        self.assertEqual(last(begin(1, 1), lot(2, 2), hours(50), at(3)), [1, 0])

    def test_no_lots(self):
        self.assertEqual(last(begin(1, 1), at(0)), [0])


class Plan(unittest.TestCase):
    def test_no_lots(self):
        self.assertEqual(last(begin(1, 1), plan()), [0])

    def test_in_the_order_in_which_they_begin(self):
        self.assertEqual(last(*FOUR, plan()), [4, 1, 0, 2, 1, 3, 2, 0, 0])

    def test_alike_ones_by_numbers(self):
        got = last(begin(6, 1), lot(4, 9), lot(4, 1), lot(0, 4), lot(4, 5), plan())
        self.assertEqual(got, [4, 2, 0, 0, 0, 1, 1, 3, 2])

    def test_all_begin_in_one_hour(self):
        got = last(begin(6, 1), *[lot(7, 9 - l) for l in range(6)], plan())
        self.assertEqual(got, [6, 0, 0, 1, 1, 2, 2, 3, 3, 4, 4, 5, 5])

    def test_the_least_tank_is_taken(self):
        got = last(begin(3, 1), lot(0, 9), lot(1, 3), lot(2, 4), lot(6, 9), lot(7, 2), plan())
        self.assertEqual(got, [5, 0, 0, 1, 1, 2, 2, 3, 1, 4, 2])

    def test_one_begins_when_another_ends(self):
        self.assertEqual(last(begin(3, 1), lot(0, 4), lot(4, 4), lot(8, 1), plan()), [3, 0, 0, 1, 0, 2, 0])

    def test_a_tank_more_does_not_matter(self):
        self.assertEqual(last(*FOUR, tank(), tank(), plan()), last(*FOUR, plan()))

    def test_a_lot_longer_into_another(self):
        setup = [begin(2, 1), lot(0, 4), lot(4, 4)]
        self.assertEqual(ask(*setup, plan(), longer(0, 1), plan())[3:], [[2, 0, 0, 1, 0], [5], [2, 0, 0, 1, 1]])

    def test_one_told_later_may_move_others(self):
        setup = [begin(2, 1), lot(5, 5)]
        self.assertEqual(ask(*setup, tankof(0), lot(3, 5), tankof(0), tankof(1))[2:], [[0], [1], [1], [0]])


class Tankof(unittest.TestCase):
    def test_as_by_the_plan(self):
        self.assertEqual(ask(*FOUR, tankof(0), tankof(1), tankof(2), tankof(3))[5:], [[0], [0], [1], [2]])
        self.assertEqual(ask(*FOUR, drop(1), tankof(0), tankof(1), tankof(2), tankof(3))[6:], [[2], [-2], [0], [1]])

    def test_no_such_lot(self):
        for l in (4, 59, 60, 65535, FAR):
            self.assertEqual(last(*FOUR, tankof(l)), [-2])
        self.assertEqual(last(begin(1, 1), tankof(0)), [-2])


class Meets(unittest.TestCase):
    def test_how_many_others_and_these(self):
        self.assertEqual(ask(*FOUR, *[meets(l) for l in range(4)])[5:], [[2, 2, 3], [2, 2, 3], [3, 0, 1, 3],
                                                                         [3, 0, 1, 2]])

    def test_not_itself(self):
        self.assertEqual(last(begin(1, 1), lot(3, 500), meets(0)), [0])

    def test_no_such_lot_any_more(self):
        for l in (4, 59, 60, 65535, FAR):
            self.assertEqual(last(*FOUR, meets(l)), [-2])
        self.assertEqual(last(begin(1, 1), meets(0)), [-2])
        self.assertEqual(last(*FOUR, drop(2), meets(2)), [-2])

    def test_one_begins_when_another_ends(self):
        setup = [begin(2, 1), lot(0, 4), lot(4, 4), lot(8, 4)]
        self.assertEqual(ask(*setup, meets(0), meets(1), meets(2))[4:], [[0], [0], [0]])
        setup = [begin(2, 1), lot(0, 5), lot(4, 5), lot(8, 4)]
        self.assertEqual(ask(*setup, meets(0), meets(1), meets(2))[4:], [[1, 1], [2, 0, 2], [1, 1]])

    def test_all_begin_in_one_hour(self):
        setup = [begin(6, 1)] + [lot(7, 9 - l) for l in range(6)]
        for l in range(6):
            self.assertEqual(last(*setup, meets(l)), [5] + [other for other in range(6) if other != l])

    def test_one_within_another(self):
        self.assertEqual(ask(begin(2, 1), lot(0, 9), lot(3, 1), meets(0), meets(1))[3:], [[1, 1], [1, 0]])

    def test_a_lot_longer_into_another(self):
        setup = [begin(2, 1), lot(0, 4), lot(6, 4)]
        self.assertEqual(ask(*setup, longer(0, 2), meets(0), meets(1), longer(0, 1), meets(0), meets(1))[3:],
                         [[6], [0], [0], [7], [1, 1], [1, 0]])

    def test_one_dropped_in_the_midst(self):
        self.assertEqual(ask(*FOUR, drop(2), meets(0), meets(1), meets(3))[6:], [[1, 3], [1, 3], [2, 0, 1]])

    def test_those_that_have_ended_count(self):
        self.assertEqual(last(begin(2, 1), lot(0, 4), lot(3, 9), hours(5), meets(1)), [1, 0])
        self.assertEqual(last(begin(2, 1), lot(0, 4), lot(3, 9), hours(500), meets(0)), [1, 1])


class Together(unittest.TestCase):
    def test_none_and_one_told(self):
        self.assertEqual(ask(*FOUR, together(), together(0), together(3))[5:], [[1], [1], [1]])
        self.assertEqual(last(begin(1, 1), together()), [1])

    def test_whether_no_two_meet(self):
        asked = [together(0, 1), together(1, 0), together(0, 2), together(2, 1), together(0, 1, 3),
                 together(0, 1, 2, 3)]
        self.assertEqual(ask(*FOUR, *asked)[5:], [[1], [1], [0], [0], [0], [0]])

    def test_one_begins_when_another_ends(self):
        self.assertEqual(last(begin(2, 1), lot(4, 4), lot(0, 4), lot(8, 1), together(0, 1, 2)), [1])
        self.assertEqual(last(begin(2, 1), lot(4, 4), lot(0, 5), lot(8, 1), together(0, 1, 2)), [0])
        self.assertEqual(last(begin(2, 1), lot(4, 5), lot(0, 4), lot(8, 1), together(0, 1, 2)), [0])

    def test_all_begin_in_one_hour(self):
        self.assertEqual(last(begin(6, 1), *[lot(7, 1 + l) for l in range(6)], together(0, 5)), [0])

    def test_a_lot_longer_into_another(self):
        setup = [begin(2, 1), lot(0, 4), lot(6, 4)]
        self.assertEqual(ask(*setup, longer(0, 2), together(0, 1), longer(0, 1), together(1, 0))[3:],
                         [[6], [1], [7], [0]])

    def test_one_dropped_in_the_midst(self):
        setup = [begin(2, 1), lot(0, 4), lot(2, 4), lot(4, 4)]
        self.assertEqual(ask(*setup, together(0, 1, 2), drop(1), together(0, 2), together(0, 1, 2))[4:],
                         [[0], [1, 0], [1], [-2]])

    def test_those_that_have_ended_count(self):
        self.assertEqual(last(begin(2, 1), lot(0, 4), lot(3, 4), hours(500), together(0, 1)), [0])

    def test_twelve_are_told_and_more(self):
        apart = [begin(1, 1)] + [lot(h, 1) for h in range(12)]
        self.assertEqual(last(*apart, together(*range(12))), [1])
        self.assertEqual(last(*TWELVE, together(*range(12))), [0])
        self.assertEqual(last(*TWELVE, together(*range(0, 12, 2))), [1])
        self.assertEqual(last(*apart, together(*range(13))), [-22])
        self.assertEqual(last(*apart, together(*range(40))), [-22])
        self.assertEqual(last(*apart, together(*range(100, 113))), [-22])
        self.assertEqual(last(*apart, together(*[65535] * 40)), [-22])

    def test_one_told_twice_or_not_there(self):
        self.assertEqual(ask(*FOUR, together(0, 0), together(1, 0, 1))[5:], [[-22], [-22]])
        for told in ((4,), (0, 1, 4), (65535, 0), (0, 65535)):
            self.assertEqual(last(*FOUR, together(*told)), [-2])
        self.assertEqual(last(*FOUR, drop(1), together(0, 1)), [-2])
        self.assertEqual(last(begin(1, 1), together(0)), [-2])

    def test_the_refusal_told_first(self):
        for told in ((9, 9), (9, 0, 0), (0, 0, 9)):
            self.assertEqual(last(*FOUR, together(*told)), [-22])

    def test_what_stands_behind_the_row_is_read(self):
        self.assertEqual(ask(*FOUR, together(), fewest(), together(*range(40)), fewest(), together(5, 6), at(0))[5:],
                         [[1], [3], [-22], [3], [-2], [1, 1]])


class LookingChangesNothing(unittest.TestCase):
    def test_answered_or_refused(self):
        looks = [fewest(), peak(), peak(0, 1), peak(1, 1), peak(0, 9), peak(*range(40)), at(3), at(10001), plan(),
                 tankof(0), tankof(9), meets(0), meets(2), meets(9), together(), together(0, 1), together(1, 2),
                 together(1, 1), together(0, 9), together(*range(40))]
        for one in looks:
            self.assertTrue(changes_nothing(FOUR, 1, one))
        self.assertTrue(changes_nothing(FOUR + [hours(4), drop(2)], 1, *looks))


if __name__ == "__main__":
    unittest.main()
