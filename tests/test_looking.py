"""Points 2 and 3: fewest, peak, at, plan, tankof, most."""

import unittest

from tests.helper import FAR, ask, at, begin, changes_nothing, drop, fewest, hours, last, longer, lot, most, peak
from tests.helper import plan, tank, tankof

# Told out of their order: 0 lies 5 to 9, 1 lies 0 to 4, 2 lies 3 to 7, 3 lies 4 to 5.
FOUR = [begin(3, 1), lot(5, 5), lot(0, 5), lot(3, 5), lot(4, 2)]
TWELVE = [begin(6, 1)] + [lot(h, 2) for h in range(12)]


class Fewest(unittest.TestCase):
    def test_no_lots(self):
        self.assertEqual(ask(begin(6, 1), fewest(), lot(0, 1), drop(0), fewest())[1:], [[0], [0], [1, 0], [0]])

    def test_the_most_at_once(self):
        self.assertEqual(last(*FOUR, fewest()), [3])
        self.assertEqual(last(*FOUR, drop(3), fewest()), [2])
        self.assertEqual(last(*TWELVE, fewest()), [2])

    def test_one_begins_when_another_ends(self):
        self.assertEqual(last(begin(6, 1), lot(0, 4), lot(4, 4), lot(8, 4), fewest()), [1])
        self.assertEqual(last(begin(6, 1), lot(0, 5), lot(4, 4), lot(8, 4), fewest()), [2])

    def test_one_that_meets_two_which_do_not_meet(self):
        self.assertEqual(last(begin(6, 1), lot(0, 3), lot(5, 3), lot(0, 9), fewest()), [2])

    def test_all_begin_in_one_hour(self):
        self.assertEqual(last(begin(6, 1), *[lot(7, 1 + l) for l in range(6)], fewest()), [6])

    def test_those_that_have_ended_count(self):
        self.assertEqual(last(begin(6, 1), lot(0, 4), lot(3, 4), hours(500), fewest()), [2])

    def test_longer_into_another(self):
        self.assertEqual(last(begin(2, 1), lot(0, 4), lot(4, 4), longer(0, 1), fewest()), [2])


class Peak(unittest.TestCase):
    def test_none_told(self):
        self.assertEqual(last(*FOUR, peak()), [0])
        self.assertEqual(last(begin(1, 1), peak()), [0])

    def test_of_those_told_alone(self):
        asked = [peak(0), peak(0, 1), peak(0, 2), peak(2, 1), peak(3, 2, 1), peak(0, 3, 1), peak(0, 1, 2, 3)]
        self.assertEqual(ask(*FOUR, *asked)[5:], [[1], [1], [2], [2], [3], [2], [3]])

    def test_twelve_are_told_and_more(self):
        self.assertEqual(last(*TWELVE, peak(*range(12))), [2])
        self.assertEqual(last(*TWELVE, peak(*range(11, -1, -1))), [2])
        self.assertEqual(last(*TWELVE, peak(*range(13))), [-22])
        self.assertEqual(last(*TWELVE, peak(*range(40))), [-22])
        self.assertEqual(last(*TWELVE, peak(*range(100, 113))), [-22])
        self.assertEqual(last(*TWELVE, peak(*[65535] * 40)), [-22])

    def test_one_told_twice(self):
        self.assertEqual(last(*FOUR, peak(0, 0)), [-22])
        self.assertEqual(last(*FOUR, peak(1, 2, 3, 1)), [-22])

    def test_one_is_not_there(self):
        for told in ((4,), (0, 1, 4), (65535, 0), (0, 65535)):
            self.assertEqual(last(*FOUR, peak(*told)), [-2])
        self.assertEqual(last(*FOUR, drop(2), peak(0, 2)), [-2])
        self.assertEqual(last(*FOUR, drop(2), peak(0, 3)), [2])
        self.assertEqual(last(begin(1, 1), peak(0)), [-2])

    def test_the_refusal_told_first(self):
        self.assertEqual(last(*FOUR, peak(9, 9)), [-22])
        self.assertEqual(last(*FOUR, peak(9, 0, 0)), [-22])
        self.assertEqual(last(*FOUR, peak(0, 0, 9)), [-22])

    def test_what_stands_behind_the_row_is_read(self):
        self.assertEqual(ask(*FOUR, peak(), fewest(), peak(*range(40)), fewest(), peak(5, 6), plan(), peak(1))[5:],
                         [[0], [3], [-22], [3], [-2], [4, 1, 0, 2, 1, 3, 2, 0, 0], [1]])


class At(unittest.TestCase):
    def test_these_by_numbers(self):
        asked = [at(0), at(2), at(3), at(4), at(5), at(6), at(8), at(9), at(10)]
        self.assertEqual(ask(*FOUR, *asked)[5:], [[1, 1], [1, 1], [2, 1, 2], [3, 1, 2, 3], [3, 0, 2, 3], [2, 0, 2],
                                                  [1, 0], [1, 0], [0]])

    def test_ends_of_the_range(self):
        setup = [begin(1, 1), lot(10000, 2), lot(0, 1)]
        self.assertEqual(ask(*setup, at(0), at(1), at(9999), at(10000), at(10001), at(FAR))[3:],
                         [[1, 1], [0], [0], [1, 0], [-22], [-22]])

    def test_hours_that_are_over(self):
        self.assertEqual(last(begin(1, 1), lot(2, 2), hours(50), at(3)), [1, 0])

    def test_no_lots(self):
        self.assertEqual(last(begin(1, 1), at(0)), [0])


class Plan(unittest.TestCase):
    def test_no_lots(self):
        self.assertEqual(last(begin(1, 1), plan()), [0])

    def test_in_the_order_in_which_they_begin(self):
        self.assertEqual(last(*FOUR, plan()), [4, 1, 0, 2, 1, 3, 2, 0, 0])

    def test_alike_ones_by_numbers(self):
        got = last(begin(6, 1), lot(4, 9), lot(4, 1), lot(0, 4), lot(4, 5), plan())
        self.assertEqual(got, [4, 2, 0, 0, 0, 1, 1, 3, 2])

    def test_all_begin_in_one_hour(self):
        got = last(begin(6, 1), *[lot(7, 9 - l) for l in range(6)], plan())
        self.assertEqual(got, [6, 0, 0, 1, 1, 2, 2, 3, 3, 4, 4, 5, 5])

    def test_the_least_tank_is_taken(self):
        got = last(begin(3, 1), lot(0, 9), lot(1, 3), lot(2, 4), lot(6, 9), lot(7, 2), plan())
        self.assertEqual(got, [5, 0, 0, 1, 1, 2, 2, 3, 1, 4, 2])

    def test_one_begins_when_another_ends(self):
        self.assertEqual(last(begin(3, 1), lot(0, 4), lot(4, 4), lot(8, 1), plan()), [3, 0, 0, 1, 0, 2, 0])

    def test_a_tank_more_does_not_matter(self):
        self.assertEqual(last(*FOUR, tank(), tank(), plan()), last(*FOUR, plan()))

    def test_a_lot_longer_into_another(self):
        setup = [begin(2, 1), lot(0, 4), lot(4, 4)]
        self.assertEqual(ask(*setup, plan(), longer(0, 1), plan())[3:], [[2, 0, 0, 1, 0], [5], [2, 0, 0, 1, 1]])

    def test_one_told_later_may_move_others(self):
        setup = [begin(2, 1), lot(5, 5)]
        self.assertEqual(ask(*setup, tankof(0), lot(3, 5), tankof(0), tankof(1))[2:], [[0], [1], [1], [0]])


class Tankof(unittest.TestCase):
    def test_as_by_the_plan(self):
        self.assertEqual(ask(*FOUR, tankof(0), tankof(1), tankof(2), tankof(3))[5:], [[0], [0], [1], [2]])
        self.assertEqual(ask(*FOUR, drop(1), tankof(0), tankof(1), tankof(2), tankof(3))[6:], [[2], [-2], [0], [1]])

    def test_no_such_lot(self):
        for l in (4, 59, 60, 65535, FAR):
            self.assertEqual(last(*FOUR, tankof(l)), [-2])
        self.assertEqual(last(begin(1, 1), tankof(0)), [-2])


class Most(unittest.TestCase):
    def test_each_count_of_tanks(self):
        self.assertEqual(ask(*FOUR, *[most(k) for k in range(7)])[5:],
                         [[0], [2, 0, 1], [3, 0, 1, 3], [4, 0, 1, 2, 3], [4, 0, 1, 2, 3], [4, 0, 1, 2, 3],
                          [4, 0, 1, 2, 3]])

    def test_out_of_range(self):
        for k in (7, 8, 500, FAR):
            self.assertEqual(last(*FOUR, most(k)), [-22])

    def test_no_lots(self):
        self.assertEqual(ask(begin(1, 1), most(0), most(6), most(7))[1:], [[0], [0], [-22]])

    def test_fewer_tanks_by_one(self):
        for tanks in range(1, 7):
            setup = [begin(tanks, 1)] + [lot(3, 9 - l) for l in range(tanks)]
            self.assertEqual(last(*setup, most(tanks)), [tanks, *range(tanks)])
            self.assertEqual(last(*setup, most(tanks - 1)), [tanks - 1, *range(1, tanks)])

    def test_two_that_end_alike(self):
        self.assertEqual(last(begin(2, 1), lot(0, 9), lot(6, 3), most(1)), [1, 0])
        self.assertEqual(last(begin(2, 1), lot(6, 3), lot(0, 9), most(1)), [1, 0])
        self.assertEqual(last(begin(3, 1), lot(0, 9), lot(6, 3), lot(5, 4), most(2)), [2, 0, 1])

    def test_the_one_that_ends_first_is_taken(self):
        self.assertEqual(last(begin(2, 1), lot(0, 9), lot(1, 7), most(1)), [1, 1])
        self.assertEqual(last(begin(2, 1), lot(0, 9), lot(1, 2), lot(3, 6), most(1)), [2, 1, 2])

    def test_one_that_meets_two_which_do_not_meet(self):
        self.assertEqual(last(begin(2, 1), lot(0, 2), lot(3, 2), lot(0, 9), most(2)), [3, 0, 1, 2])

    def test_one_begins_when_another_ends(self):
        self.assertEqual(last(begin(2, 1), lot(4, 4), lot(0, 4), lot(3, 2), most(1)), [2, 0, 1])

    def test_more_tanks_than_there_are_may_be_asked(self):
        self.assertEqual(last(begin(1, 1), lot(0, 4), most(6)), [1, 0])

    def test_those_that_have_ended_count(self):
        self.assertEqual(last(begin(2, 1), lot(0, 4), lot(1, 4), hours(500), most(1)), [1, 0])


class LookingChangesNothing(unittest.TestCase):
    def test_answered_or_refused(self):
        looks = [fewest(), peak(), peak(0, 1), peak(1, 1), peak(0, 9), peak(*range(40)), at(3), at(10001), plan(),
                 tankof(0), tankof(9), most(0), most(1), most(6), most(7)]
        for look in looks:
            self.assertTrue(changes_nothing(FOUR, 1, look))
        self.assertTrue(changes_nothing(FOUR + [hours(4), drop(2)], 1, *looks))


if __name__ == "__main__":
    unittest.main()
