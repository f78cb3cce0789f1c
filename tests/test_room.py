"""Point 3: most, mostof, may, first, firstwith."""

import unittest

from tests.helper import (FAR, ask, at, begin, changes_nothing, drop, fewest, first, firstwith, go_to, hours, last,
                          longer, lot, may, most, mostof, state, tank)

# Told out of their order: 0 lies 5 to 9, 1 lies 0 to 4, 2 lies 3 to 7, 3 lies 4 to 5.
FOUR = [begin(3, 1), lot(5, 5), lot(0, 5), lot(3, 5), lot(4, 2)]
TWELVE = [begin(6, 1)] + [lot(h, 2) for h in range(12)]
# One tank, free in the hours 5 to 7 and from hour 13 on.
GAP = [begin(1, 1), lot(0, 5), lot(8, 5)]


class Most(unittest.TestCase):
    def test_each_count_of_tanks(self):
        self.assertEqual(ask(*FOUR, *[most(k) for k in range(7)])[5:],
                         [[0], [2, 0, 1], [3, 0, 1, 3], [4, 0, 1, 2, 3], [4, 0, 1, 2, 3], [4, 0, 1, 2, 3],
                          [4, 0, 1, 2, 3]])

    def test_out_of_range(self):
        for k in (7, 8, 500, FAR):
            self.assertEqual(last(*FOUR, most(k)), [-22])

    def test_no_lots(self):
        self.assertEqual(ask(begin(1, 1), most(0), most(6), most(7))[1:], [[0], [0], [-22]])

    def test_fewer_tanks_by_one(self):
        for tanks in range(1, 7):
            setup = [begin(tanks, 1)] + [lot(3, 9 - l) for l in range(tanks)]
            self.assertEqual(last(*setup, most(tanks)), [tanks, *range(tanks)])
            self.assertEqual(last(*setup, most(tanks - 1)), [tanks - 1, *range(1, tanks)])

    def test_two_that_end_alike(self):
        self.assertEqual(last(begin(2, 1), lot(0, 9), lot(6, 3), most(1)), [1, 0])
        self.assertEqual(last(begin(2, 1), lot(6, 3), lot(0, 9), most(1)), [1, 0])
        self.assertEqual(last(begin(3, 1), lot(0, 9), lot(6, 3), lot(5, 4), most(2)), [2, 0, 1])

    def test_the_one_that_ends_first_is_taken(self):
        self.assertEqual(last(begin(2, 1), lot(0, 9), lot(1, 7), most(1)), [1, 1])
        self.assertEqual(last(begin(2, 1), lot(0, 9), lot(1, 2), lot(3, 6), most(1)), [2, 1, 2])

    def test_one_that_meets_two_which_do_not_meet(self):
        self.assertEqual(last(begin(2, 1), lot(0, 2), lot(3, 2), lot(0, 9), most(2)), [3, 0, 1, 2])

    def test_one_begins_when_another_ends(self):
        self.assertEqual(last(begin(2, 1), lot(4, 4), lot(0, 4), lot(3, 2), most(1)), [2, 0, 1])

    def test_more_tanks_than_there_are_may_be_asked(self):
        self.assertEqual(last(begin(1, 1), lot(0, 4), most(6)), [1, 0])

    def test_those_that_have_ended_count(self):
        self.assertEqual(last(begin(2, 1), lot(0, 4), lot(1, 4), hours(500), most(1)), [1, 0])


class Mostof(unittest.TestCase):
    def test_of_all_as_most(self):
        for k in range(7):
            self.assertEqual(last(*FOUR, mostof(k, 0, 1, 2, 3)), last(*FOUR, most(k)))
            self.assertEqual(last(*FOUR, mostof(k, 3, 1, 0, 2)), last(*FOUR, most(k)))

    def test_of_those_told_alone(self):
        asked = [mostof(1, 0, 2), mostof(1, 2), mostof(1, 2, 3), mostof(2, 0, 2, 3), mostof(3, 3, 2, 0),
                 mostof(1, 1, 0)]
        self.assertEqual(ask(*FOUR, *asked)[5:], [[1, 2], [1, 2], [1, 3], [2, 2, 3], [3, 0, 2, 3], [2, 0, 1]])

    def test_none_told(self):
        self.assertEqual(ask(*FOUR, mostof(0), mostof(1), mostof(6))[5:], [[0], [0], [0]])
        self.assertEqual(ask(begin(1, 1), mostof(0), mostof(6), mostof(7))[1:], [[0], [0], [-22]])

    def test_no_tanks(self):
        self.assertEqual(ask(*FOUR, mostof(0, 0), mostof(0, 0, 1, 2, 3))[5:], [[0], [0]])

    def test_ends_of_the_range(self):
        setup = [begin(6, 1)] + [lot(3, 9 - l) for l in range(6)]
        self.assertEqual(ask(*setup, mostof(1, *range(6)), mostof(6, *range(6)))[7:], [[1, 5], [6, *range(6)]])
        for k in (7, 8, 500, FAR):
            self.assertEqual(last(*setup, mostof(k, *range(6))), [-22])

    def test_fewer_tanks_by_one(self):
        for tanks in range(1, 7):
            setup = [begin(tanks, 1)] + [lot(3, 9 - l) for l in range(tanks)]
            self.assertEqual(last(*setup, mostof(tanks, *range(tanks))), [tanks, *range(tanks)])
            self.assertEqual(last(*setup, mostof(tanks - 1, *range(tanks))), [tanks - 1, *range(1, tanks)])

    def test_two_that_end_alike_go_by_numbers_not_as_told(self):
        for setup in ([begin(2, 1), lot(0, 9), lot(6, 3)], [begin(2, 1), lot(6, 3), lot(0, 9)]):
            self.assertEqual(ask(*setup, mostof(1, 0, 1), mostof(1, 1, 0), mostof(1, 1))[3:], [[1, 0], [1, 0], [1, 1]])
        setup = [begin(3, 1), lot(0, 9), lot(6, 3), lot(5, 4)]
        self.assertEqual(ask(*setup, mostof(2, 2, 1, 0), mostof(1, 2, 1))[4:], [[2, 0, 1], [1, 1]])

    def test_one_begins_when_another_ends(self):
        self.assertEqual(last(begin(2, 1), lot(4, 4), lot(0, 4), lot(3, 2), mostof(1, 1, 0)), [2, 0, 1])

    def test_one_dropped_in_the_midst(self):
        self.assertEqual(ask(*FOUR, drop(3), mostof(2, 0, 1, 2), mostof(2, 0, 3))[6:], [[3, 0, 1, 2], [-2]])

    def test_a_lot_longer_into_another(self):
        setup = [begin(2, 1), lot(0, 4), lot(4, 4)]
        self.assertEqual(ask(*setup, mostof(1, 0, 1), longer(0, 1), mostof(1, 0, 1), longer(0, 4), mostof(1, 0, 1))[3:],
                         [[2, 0, 1], [5], [1, 0], [9], [1, 1]])

    def test_more_tanks_than_there_are_may_be_asked(self):
        self.assertEqual(last(begin(1, 1), lot(0, 4), mostof(6, 0)), [1, 0])

    def test_those_that_have_ended_count(self):
        self.assertEqual(last(begin(2, 1), lot(0, 4), lot(1, 4), hours(500), mostof(1, 1, 0)), [1, 0])

    def test_twelve_are_told_and_more(self):
        self.assertEqual(last(*TWELVE, mostof(1, *range(12))), [6, 0, 2, 4, 6, 8, 10])
        self.assertEqual(last(*TWELVE, mostof(2, *range(11, -1, -1))), [12, *range(12)])
        for told in (range(13), range(40), range(100, 113), [65535] * 40):
            self.assertEqual(last(*TWELVE, mostof(2, *told)), [-22])

    def test_one_told_twice_or_not_there(self):
        self.assertEqual(ask(*FOUR, mostof(1, 0, 0), mostof(1, 2, 0, 2))[5:], [[-22], [-22]])
        for told in ((4,), (0, 1, 4), (65535, 0), (0, 65535)):
            self.assertEqual(last(*FOUR, mostof(1, *told)), [-2])
        self.assertEqual(last(begin(1, 1), mostof(1, 0)), [-2])

    def test_the_refusal_told_first(self):
        for told in ((9, 9), (9, 0, 0), (0, 0, 9)):
            self.assertEqual(last(*FOUR, mostof(1, *told)), [-22])
        for told in ((9,), (0, 65535), (0, 0), range(40)):
            self.assertEqual(last(*FOUR, mostof(7, *told)), [-22])
        self.assertEqual(last(*FOUR, mostof(6, 9)), [-2])

    def test_what_stands_behind_the_row_is_read(self):
        self.assertEqual(ask(*FOUR, mostof(1), fewest(), mostof(1, *range(40)), fewest(), mostof(7, 5), at(0))[5:],
                         [[0], [3], [-22], [3], [-22], [1, 1]])


class May(unittest.TestCase):
    def test_no_lots(self):
        self.assertEqual(ask(begin(1, 1), may(0, 1), may(0, 500), may(10000, 500))[1:], [[1], [1], [1]])

    def test_ends_of_the_ranges(self):
        setup = [begin(1, 1), lot(0, 1), lot(10000, 1)]
        asked = [may(0, 1), may(1, 1), may(10000, 1), may(9500, 500), may(9501, 500), may(1, 500)]
        self.assertEqual(ask(*setup, *asked)[3:], [[0], [1], [0], [1], [0], [1]])
        for h, n in ((10001, 1), (FAR, 1), (0, 0), (0, 501), (0, FAR), (10001, 0), (FAR, FAR), (10000, 501)):
            self.assertEqual(last(*setup, may(h, n)), [-22])

    def test_begins_when_another_ends_and_ends_when_another_begins(self):
        asked = [may(5, 3), may(5, 4), may(4, 4), may(4, 1), may(7, 1), may(8, 1), may(12, 1), may(13, 500)]
        self.assertEqual(ask(*GAP, *asked)[3:], [[1], [0], [0], [0], [1], [0], [0], [1]])

    def test_one_within_its_hours(self):
        self.assertEqual(ask(begin(1, 1), lot(10, 1), may(0, 100), may(0, 10), may(0, 11))[2:], [[0], [1], [0]])

    def test_all_begin_in_one_hour(self):
        for tanks in range(1, 7):
            setup = [begin(tanks, 1)] + [lot(4, 2 + l) for l in range(tanks)]
            self.assertEqual(ask(*setup, may(4, 1), may(5, 1), may(6, 1), may(3, 1), may(3, 2))[1 + tanks:],
                             [[0], [0], [1], [1], [0]])
            self.assertEqual(last(*setup[:-1], may(4, 500)), [1])

    def test_two_met_one_behind_the_other_leave_room_in_a_second_tank(self):
        self.assertEqual(last(begin(2, 1), lot(0, 5), lot(5, 5), may(0, 10)), [1])
        self.assertEqual(last(begin(2, 1), lot(0, 6), lot(5, 5), may(0, 10)), [0])

    def test_with_the_tanks_there_are(self):
        self.assertEqual(ask(begin(1, 1), lot(0, 5), may(0, 5), tank(), may(0, 5), lot(2, 9), may(0, 5), may(0, 2))[2:],
                         [[0], [2], [1], [1], [0], [1]])

    def test_less_than_need_and_hours_that_are_over_are_answered(self):
        setup = [begin(1, 9), lot(3, 9), hours(50)]
        self.assertEqual(ask(*setup, may(0, 3), may(0, 4), may(12, 1), may(11, 1))[3:], [[1], [0], [1], [0]])

    def test_twelve_lots_are_no_hindrance(self):
        self.assertEqual(last(*TWELVE, may(0, 20)), [1])

    def test_longer_and_dropped(self):
        self.assertEqual(ask(*GAP, longer(0, 1), may(5, 1), may(6, 2), drop(0), may(0, 8), may(0, 9))[3:],
                         [[6], [0], [1], [1, 0], [1], [0]])


class First(unittest.TestCase):
    def test_no_lots(self):
        self.assertEqual(ask(begin(1, 1), first(0, 1), first(0, 500), first(10000, 500), first(77, 3))[1:],
                         [[0], [0], [10000], [77]])

    def test_ends_of_the_ranges(self):
        for h, n in ((10001, 1), (FAR, 1), (0, 0), (0, 501), (0, FAR), (10001, 0), (FAR, FAR), (10000, 501)):
            self.assertEqual(last(*GAP, first(h, n)), [-22])
        self.assertEqual(ask(*GAP, first(0, 1), first(0, 500), first(10000, 1), first(10000, 500))[3:],
                         [[5], [13], [10000], [10000]])

    def test_a_gap_that_is_just_long_enough_and_one_an_hour_too_short(self):
        self.assertEqual(ask(*GAP, first(0, 3), first(0, 4), first(5, 3), first(6, 2), first(6, 3), first(5, 4))[3:],
                         [[5], [13], [5], [6], [13], [13]])

    def test_begins_when_another_ends(self):
        setup = [begin(1, 1), lot(0, 5), lot(5, 5)]
        self.assertEqual(ask(*setup, first(0, 1), first(4, 1), first(9, 1), first(10, 1))[3:], [[10], [10], [10], [10]])

    def test_it_is_the_first_one_of_several(self):
        setup = [begin(1, 1), lot(20, 5), lot(10, 5), lot(0, 5), lot(30, 5)]
        self.assertEqual(ask(*setup, first(0, 5), first(6, 5), first(16, 4), first(16, 5), first(0, 6))[5:],
                         [[5], [15], [16], [25], [35]])

    def test_all_begin_in_one_hour(self):
        for tanks in range(1, 7):
            setup = [begin(tanks, 1)] + [lot(4, 2 + l) for l in range(tanks)]
            self.assertEqual(ask(*setup, first(0, 4), first(0, 5), first(4, 9))[1 + tanks:], [[0], [6], [6]])

    def test_with_the_tanks_there_are(self):
        setup = [begin(2, 1), lot(0, 5), lot(0, 9), lot(7, 5)]
        self.assertEqual(ask(*setup, first(0, 2), first(0, 3), first(0, 4), tank(), first(0, 3))[4:],
                         [[5], [9], [9], [3], [0]])

    def test_beyond_the_last_hour(self):
        setup = [begin(1, 1), lot(10000, 500)]
        self.assertEqual(ask(*setup, first(10000, 1), first(9999, 2), first(9999, 1), longer(0, 500),
                             first(9501, 500), first(9500, 500))[2:],
                         [[10500], [10500], [9999], [11000], [11000], [9500]])

    def test_less_than_need_and_hours_that_are_over_are_answered(self):
        setup = [begin(1, 9), lot(3, 9), hours(50)]
        self.assertEqual(ask(*setup, first(0, 3), first(0, 4), first(4, 1), first(12, 1))[3:], [[0], [12], [12], [12]])

    def test_longer_and_dropped(self):
        calls = [longer(0, 1), first(0, 2), first(0, 3), drop(1), first(0, 3), drop(0), first(0, 3)]
        self.assertEqual(ask(*GAP, *calls)[3:], [[6], [6], [13], [1, 0], [6], [1, 0], [0]])

    def test_at_the_last_hour_of_all(self):
        setup = [begin(1, 1), *go_to(10000), lot(10000, 7)]
        self.assertEqual(ask(*setup, state(), first(0, 500), first(10000, 1))[len(setup):],
                         [[0, 10000, 1, 1, 1], [0], [10007]])


class Firstwith(unittest.TestCase):
    def test_with_k_tanks(self):
        setup = [begin(3, 1), lot(0, 9), lot(0, 6), lot(0, 3)]
        self.assertEqual(ask(*setup, *[firstwith(k, 0, 2) for k in range(1, 7)])[4:], [[9], [6], [3], [0], [0], [0]])

    def test_with_as_many_as_there_are_it_is_first(self):
        for h in range(12):
            for n in range(1, 6):
                got = ask(*FOUR, first(h, n), firstwith(3, h, n))
                self.assertEqual(got[-1], got[-2])

    def test_ends_of_the_ranges(self):
        for k in (0, 7, 8, FAR):
            for h, n in ((0, 1), (10000, 500), (10001, 0)):
                self.assertEqual(last(*FOUR, firstwith(k, h, n)), [-22])
        for h, n in ((10001, 1), (FAR, 1), (0, 0), (0, 501), (0, FAR), (10001, 0), (FAR, FAR)):
            self.assertEqual(ask(*FOUR, firstwith(1, h, n), firstwith(6, h, n))[5:], [[-22], [-22]])
        self.assertEqual(ask(*FOUR, firstwith(1, 0, 500), firstwith(6, 0, 500), firstwith(1, 10000, 1))[5:],
                         [[10], [0], [10000]])

    def test_a_gap_that_is_just_long_enough_and_one_an_hour_too_short(self):
        setup = [begin(6, 1), lot(0, 5), lot(8, 5)]
        self.assertEqual(ask(*setup, firstwith(1, 0, 3), firstwith(1, 0, 4), firstwith(2, 0, 4))[3:], [[5], [13], [0]])

    def test_fewer_tanks_by_one(self):
        for tanks in range(1, 7):
            setup = [begin(6, 1)] + [lot(4, 2 + l) for l in range(tanks)]
            asked = [firstwith(k, 4, 1) for k in range(1, tanks + 1)]
            self.assertEqual(ask(*setup, *asked)[1 + tanks:], [[6 + tanks - k] for k in range(1, tanks + 1)])

    def test_the_tanks_there_are_do_not_matter(self):
        self.assertEqual(ask(*GAP, firstwith(2, 0, 5), tank(), firstwith(1, 0, 3), firstwith(1, 0, 4))[3:],
                         [[0], [2], [5], [13]])

    def test_no_lots(self):
        self.assertEqual(ask(begin(6, 1), firstwith(1, 0, 1), firstwith(6, 10000, 500))[1:], [[0], [10000]])

    def test_beyond_the_last_hour(self):
        setup = [begin(2, 1), lot(10000, 500), lot(9990, 100)]
        self.assertEqual(ask(*setup, firstwith(1, 9995, 1), firstwith(2, 9995, 9), firstwith(2, 9990, 10))[3:],
                         [[10500], [10090], [9990]])

    def test_longer_and_dropped(self):
        calls = [longer(0, 1), firstwith(1, 0, 2), drop(1), firstwith(1, 0, 3), firstwith(2, 0, 9)]
        self.assertEqual(ask(*GAP, *calls)[3:], [[6], [6], [1, 0], [6], [0]])


class LookingChangesNothing(unittest.TestCase):
    def test_answered_or_refused(self):
        looks = [most(0), most(1), most(6), most(7), mostof(0), mostof(1, 0, 2), mostof(7, 0), mostof(1, 9),
                 mostof(1, 0, 0), mostof(1, *range(40)), may(0, 1), may(4, 1), may(10001, 1), may(0, 501), first(0, 4),
                 first(4, 9), first(10001, 1), first(0, 0), firstwith(1, 0, 9), firstwith(0, 0, 1),
                 firstwith(6, 0, 501)]
        for one in looks:
            self.assertTrue(changes_nothing(FOUR, 1, one))
        self.assertTrue(changes_nothing(FOUR + [hours(4), drop(2)], 1, *looks))


if __name__ == "__main__":
    unittest.main()
