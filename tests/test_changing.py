"""Point 1: begin, lot, drop, longer, tank, hours."""

import unittest

from tests.helper import (FAR, ask, at, begin, busy, changes_nothing, drop, every_call, fewest, first, firstwith, go_to,
                          hours, last, left, longer, look, lot, may, meets, most, mostof, peak, plan, ready, state,
                          sums, tank, tankof, together)

SETUP = [begin(2, 3), lot(0, 4, 7), lot(2, 6, 8), hours(2), lot(4, 9, 9), lot(20, 3, 10), drop(2)]


class Begin(unittest.TestCase):
    def test_ends_of_the_ranges(self):
        for tanks, need in ((1, 1), (6, 500), (1, 500), (6, 1), (3, 24)):
            self.assertEqual(ask(begin(tanks, need)), [[0]])
        for tanks, need in ((0, 1), (7, 1), (FAR, 1), (1, 0), (1, 501), (1, FAR), (0, 0), (7, 501)):
            self.assertEqual(ask(begin(tanks, need)), [[-22]])

    def test_each_other_call_before_it(self):
        refused_else = [lot(FAR, FAR, FAR), drop(FAR), longer(FAR, 0), hours(0), hours(FAR), peak(0, 0),
                        peak(*range(40)), peak(65535), at(FAR), tankof(FAR), most(7), most(FAR), mostof(7, 1, 1),
                        mostof(FAR, *range(40)), mostof(1, 65535), together(1, 1), together(*range(40)),
                        together(65535), meets(FAR), may(FAR, FAR), may(0, 0), first(FAR, FAR), first(0, 501),
                        firstwith(0, 0, 1), firstwith(FAR, FAR, FAR), left(FAR), look(FAR)]
        others = every_call()[1:] + refused_else
        self.assertEqual([call[0] for call in others[:23]], list(range(1, 24)))
        self.assertEqual(ask(*others), [[-11]] * len(others))
        self.assertEqual(ask(begin(0, 1), *others), [[-22]] + [[-11]] * len(others))
        self.assertEqual(ask(begin(1, 501), *others), [[-22]] + [[-11]] * len(others))

    def test_the_call_begins_once_it_is_answered_with_0(self):
        self.assertEqual(ask(tank(), begin(7, 1), tank(), begin(1, 1), tank()), [[-11], [-22], [-11], [0], [2]])

    def test_no_lots_and_hour_0_behind_it(self):
        self.assertEqual(ask(begin(2, 3), plan(), fewest(), hours(1))[1:], [[0], [0], [1, 0]])

    def test_a_second_one_begins_anew(self):
        got = ask(*SETUP, begin(1, 2), plan(), fewest(), peak(0), tankof(0), at(3), drop(0), longer(1, 1), most(6),
                  lot(0, 1), lot(0, 2), lot(1, 2), tank(), hours(1))
        self.assertEqual(got[len(SETUP):], [[0], [0], [0], [-2], [-2], [0], [-2], [-2], [0],
                                            [-12], [0], [-33], [2], [1, 0]])

    def test_each_call_behind_a_second_one(self):
        self.assertEqual(ask(*SETUP, *every_call())[len(SETUP):], ask(*every_call()))
        for call in every_call()[1:]:
            self.assertEqual(last(*SETUP, begin(4, 2), call), last(begin(4, 2), call))
        got = ask(*SETUP, begin(1, 2), mostof(6, 0), mostof(1), together(1), together(), meets(0), may(2, 9),
                  first(0, 9), firstwith(1, 0, 9), ready(), left(0), busy(), look(1), sums(), state())
        self.assertEqual(got[len(SETUP):], [[0], [-2], [0], [-2], [1], [-2], [1], [0], [0], [0], [-2], [0, 0], [-2],
                                            [0, 0, 0, 0], [0, 0, 1, 2, 0]])

    def test_a_second_one_has_60_lots_anew(self):
        some = [call for l in range(40) for call in (lot(0, 1), drop(l))]
        self.assertEqual(last(begin(1, 1), *some, begin(1, 1), *some, lot(0, 1)), [40])

    def test_refused_behind_one_that_answered_0(self):
        for wrong in (begin(0, 3), begin(7, 3), begin(1, 0), begin(1, 501), begin(FAR, FAR)):
            self.assertEqual(last(*SETUP, wrong), [-22])
            self.assertTrue(changes_nothing(SETUP, 3, wrong))
            for call in every_call()[1:]:
                self.assertEqual(last(*SETUP, wrong, call), last(*SETUP, call))


class LotCall(unittest.TestCase):
    def test_numbered_from_0_as_told(self):
        self.assertEqual(ask(begin(3, 1), lot(5, 2), lot(0, 9), lot(5, 1))[1:], [[0], [1], [2]])

    def test_ends_of_the_ranges(self):
        for h, n, crates in ((0, 1, 1), (10000, 500, 1000), (0, 500, 1), (10000, 1, 1000)):
            self.assertEqual(last(begin(1, 1), lot(h, n, crates)), [0])
        for h, n, crates in ((10001, 1, 1), (FAR, 1, 1), (0, 0, 1), (0, 501, 1), (0, FAR, 1),
                             (0, 1, 0), (0, 1, 1001), (0, 1, FAR), (FAR, FAR, FAR)):
            self.assertEqual(last(begin(1, 1), lot(h, n, crates)), [-22])

    def test_what_lies_is_the_hours_told(self):
        got = ask(begin(1, 1), lot(3, 2), at(2), at(3), at(4), at(5))
        self.assertEqual(got[2:], [[0], [1, 0], [1, 0], [0]])

    def test_an_hour_that_is_over(self):
        self.assertEqual(ask(begin(1, 1), hours(5), lot(4, 9), lot(0, 1), lot(5, 1))[2:], [[-16], [-16], [0]])

    def test_the_last_hour_of_all(self):
        setup = [begin(1, 1)] + go_to(10000)
        self.assertEqual(last(*setup, lot(9999, 1)), [-16])
        self.assertEqual(last(*setup, lot(10000, 1)), [0])

    def test_need_just_met(self):
        self.assertEqual(ask(begin(1, 3), lot(0, 2), lot(0, 3))[1:], [[-12], [0]])
        self.assertEqual(ask(begin(1, 500), lot(0, 499), lot(0, 500))[1:], [[-12], [0]])

    def test_12_are_there_and_a_13th(self):
        twelve = [begin(1, 1)] + [lot(h, 1) for h in range(12)]
        self.assertEqual(ask(*twelve)[1:], [[l] for l in range(12)])
        self.assertEqual(last(*twelve, lot(50, 1)), [-28])
        self.assertEqual(ask(*twelve, lot(50, 1), drop(5), lot(50, 1), lot(51, 1))[13:], [[-28], [1, 0], [12], [-28]])

    def test_those_that_have_ended_are_there_yet(self):
        twelve = [begin(1, 1)] + [lot(h, 1) for h in range(12)] + [hours(100)]
        self.assertEqual(ask(*twelve, lot(100, 1), drop(0), lot(100, 1))[13:], [[100, 12], [-28], [1, 1], [12]])

    def test_60_ever_and_a_61st(self):
        sixty = [begin(1, 1)] + [call for l in range(59) for call in (lot(0, 1), drop(l))] + [lot(0, 1)]
        self.assertEqual(last(*sixty), [59])
        self.assertEqual(ask(*sixty, lot(1, 1), drop(59), lot(1, 1))[-3:], [[-28], [1, 0], [-28]])

    def test_refused_ones_are_not_counted_as_having_been(self):
        refused = [lot(0, 1), lot(10001, 1), lot(0, 501)] * 40
        self.assertEqual(last(begin(1, 2), *refused, lot(0, 2)), [0])

    def test_no_tank_in_one_of_its_hours(self):
        setup = [begin(1, 1), lot(10, 5)]
        for h, n in ((10, 5), (9, 2), (14, 1), (14, 9), (11, 1), (0, 100), (10, 1), (0, 11)):
            self.assertEqual(last(*setup, lot(h, n)), [-33])

    def test_begins_when_another_ends_and_ends_when_another_begins(self):
        self.assertEqual(ask(begin(1, 1), lot(10, 5), lot(15, 3), lot(7, 3), lot(18, 1))[1:], [[0], [1], [2], [3]])

    def test_a_tank_that_is_free_between_two(self):
        setup = [begin(1, 1), lot(0, 5), lot(8, 5)]
        self.assertEqual(last(*setup, lot(5, 3)), [2])
        self.assertEqual(last(*setup, lot(5, 4)), [-33])
        self.assertEqual(last(*setup, lot(4, 4)), [-33])

    def test_two_met_one_behind_the_other_leave_room_in_a_second_tank(self):
        self.assertEqual(last(begin(2, 1), lot(0, 5), lot(5, 5), lot(0, 10)), [2])
        self.assertEqual(last(begin(2, 1), lot(0, 6), lot(5, 5), lot(0, 10)), [-33])

    def test_all_begin_in_one_hour(self):
        for tanks in range(1, 7):
            calls = [begin(tanks, 1)] + [lot(4, 2 + l) for l in range(tanks)]
            self.assertEqual(ask(*calls)[1:], [[l] for l in range(tanks)])
            self.assertEqual(last(*calls, lot(4, 1)), [-33])
            self.assertEqual(last(*calls, lot(6, 1)), [tanks])

    def test_the_refusal_told_first(self):
        over = [begin(1, 3), lot(8, 9), hours(5)]
        for call in (lot(0, 0), lot(0, 501), lot(0, 9, 0), lot(0, 9, 1001), lot(10, 0), lot(10, 2, 0)):
            self.assertEqual(last(*over, call), [-22])
        self.assertEqual(last(*over, lot(4, 2)), [-16])
        self.assertEqual(last(*over, lot(4, 9)), [-16])
        self.assertEqual(last(*over, lot(9, 2)), [-12])
        full = [begin(1, 3)] + [lot(10 + 3 * l, 3) for l in range(12)] + [hours(5)]
        self.assertEqual(last(*full, lot(10, 3, 0)), [-22])
        self.assertEqual(last(*full, lot(4, 3)), [-16])
        self.assertEqual(last(*full, lot(10, 2)), [-12])
        self.assertEqual(last(*full, lot(10, 3)), [-28])

    def test_refused_changes_nothing(self):
        for wrong, answer in ((lot(10001, 3), -22), (lot(5, 0), -22), (lot(5, 3, 0), -22), (lot(1, 3), -16),
                              (lot(9, 2), -12), (lot(2, 3), -33)):
            self.assertEqual(last(*SETUP, wrong), [answer])
            self.assertTrue(changes_nothing(SETUP, 3, wrong))
        full = [begin(1, 3)] + [lot(3 * l, 3) for l in range(12)]
        self.assertEqual(last(*full, lot(50, 3)), [-28])
        self.assertTrue(changes_nothing(full, 3, lot(50, 3)))


class Drop(unittest.TestCase):
    def test_crates_and_whether_it_has_ended(self):
        setup = [begin(2, 1), lot(3, 4, 1000), lot(5, 9, 1)]
        self.assertEqual(ask(*setup, drop(0), drop(1))[3:], [[1000, 0], [1, 0]])
        self.assertEqual(ask(*setup, hours(6), drop(0), drop(1))[4:], [[1000, 0], [1, 0]])
        self.assertEqual(ask(*setup, hours(7), drop(0), drop(1))[4:], [[1000, 1], [1, 0]])
        self.assertEqual(ask(*setup, hours(14), drop(0), drop(1))[4:], [[1000, 1], [1, 1]])

    def test_no_such_lot_any_more(self):
        setup = [begin(1, 1), lot(0, 1)]
        for l in (1, 59, 60, 65535, FAR):
            self.assertEqual(last(*setup, drop(l)), [-2])
        self.assertEqual(ask(*setup, drop(0), drop(0))[2:], [[1, 0], [-2]])
        self.assertEqual(last(begin(1, 1), drop(0)), [-2])
        self.assertTrue(changes_nothing(SETUP, 3, drop(2), drop(4), drop(FAR)))

    def test_one_dropped_in_the_midst(self):
        setup = [begin(2, 1), lot(0, 5), lot(3, 4), lot(6, 9), drop(1)]
        got = ask(*setup, plan(), fewest(), at(4), most(1), tankof(1), peak(0, 1), peak(0, 2), lot(3, 4), plan())
        self.assertEqual(got[4:], [[1, 0], [2, 0, 0, 2, 0], [1], [1, 0], [2, 0, 2], [-2], [-2], [1], [3],
                                   [3, 0, 0, 3, 1, 2, 0]])

    def test_nor_was_it(self):
        got = ask(begin(1, 1), lot(0, 5), hours(3), drop(0), at(0), fewest(), hours(9), lot(12, 1))
        self.assertEqual(got[3:], [[1, 0], [0], [0], [12, 0], [1]])


class Longer(unittest.TestCase):
    def test_up_to_which_hour(self):
        got = ask(begin(1, 5), lot(3, 5), longer(0, 1), at(8), at(9), longer(0, 500), at(508), at(509))
        self.assertEqual(got[2:], [[9], [1, 0], [0], [509], [1, 0], [0]])

    def test_no_such_lot_first(self):
        setup = [begin(1, 1), lot(0, 1), lot(1, 1), drop(0)]
        for l in (0, 2, 60, FAR):
            for n in (0, 1, 500, 501, FAR):
                self.assertEqual(last(*setup, longer(l, n)), [-2])

    def test_ends_of_the_range(self):
        setup = [begin(1, 1), lot(0, 1)]
        for n in (0, 501, FAR):
            self.assertEqual(last(*setup, longer(0, n)), [-22])
        self.assertEqual(last(*setup, longer(0, 1)), [2])
        self.assertEqual(last(*setup, longer(0, 500)), [501])

    def test_it_has_ended(self):
        self.assertEqual(ask(begin(1, 1), lot(0, 4), hours(3), longer(0, 1), hours(1), longer(0, 1))[3:],
                         [[5], [4, 0], [6]])
        self.assertEqual(last(begin(1, 1), lot(0, 4), hours(4), longer(0, 1)), [-17])
        self.assertEqual(last(begin(1, 1), lot(0, 4), hours(9), longer(0, 1)), [-17])

    def test_the_refusal_told_first(self):
        ended = [begin(1, 1), lot(0, 4), lot(4, 4), hours(4)]
        self.assertEqual(last(*ended, longer(0, 0)), [-22])
        self.assertEqual(last(*ended, longer(0, 501)), [-22])
        self.assertEqual(last(*ended, longer(0, 1)), [-17])
        self.assertEqual(last(begin(1, 1), lot(0, 4), lot(4, 4), longer(0, 0)), [-22])

    def test_longer_into_another(self):
        setup = [begin(1, 1), lot(0, 4), lot(6, 2)]
        self.assertEqual(ask(*setup, longer(0, 3), longer(0, 2), longer(0, 1), at(5), at(6))[3:],
                         [[-33], [6], [-33], [1, 0], [1, 1]])
        self.assertEqual(last(*setup, longer(0, 50)), [-33])
        self.assertEqual(last(*setup, longer(1, 50)), [58])

    def test_into_others_with_more_tanks(self):
        two = [begin(2, 1), lot(0, 4), lot(6, 2), lot(8, 2)]
        self.assertEqual(last(*two, longer(0, 9)), [13])
        self.assertEqual(last(*two, lot(7, 2), longer(0, 3)), [7])
        self.assertEqual(last(*two, lot(7, 2), longer(0, 4)), [-33])
        self.assertEqual(last(*two, lot(7, 2), tank(), longer(0, 4)), [8])

    def test_one_that_has_not_begun_and_past_the_last_hour(self):
        self.assertEqual(last(begin(1, 1), lot(9, 1), longer(0, 1)), [11])
        self.assertEqual(ask(begin(1, 1), lot(10000, 500), longer(0, 500), longer(0, 500))[2:], [[11000], [11500]])

    def test_fewer_hours_than_need(self):
        self.assertEqual(last(begin(1, 9), lot(0, 9), longer(0, 1)), [10])

    def test_it_is_as_long_for_the_others_too(self):
        got = ask(begin(2, 1), lot(0, 2), lot(4, 2), longer(0, 3), fewest(), plan(), most(1), lot(4, 1), hours(4),
                  hours(1))
        self.assertEqual(got[4:], [[2], [2, 0, 0, 1, 1], [1, 0], [-33], [4, 0], [5, 1]])

    def test_refused_changes_nothing(self):
        setup = SETUP + [lot(9, 11), lot(8, 12), hours(3)]
        for wrong, answer in ((longer(2, 1), -2), (longer(1, 0), -22), (longer(1, 501), -22), (longer(0, 1), -17),
                              (longer(1, 2), -33)):
            self.assertEqual(last(*setup, wrong), [answer])
            self.assertTrue(changes_nothing(setup, 3, wrong))


class Tank(unittest.TestCase):
    def test_up_to_6(self):
        self.assertEqual(ask(begin(1, 1), *[tank()] * 7)[1:], [[2], [3], [4], [5], [6], [-28], [-28]])
        self.assertEqual(last(begin(6, 1), tank()), [-28])
        self.assertEqual(ask(begin(5, 1), tank(), tank())[1:], [[6], [-28]])

    def test_it_is_there_for_a_lot(self):
        self.assertEqual(ask(begin(1, 1), lot(0, 5), lot(4, 5), tank(), lot(4, 5), lot(4, 1))[1:],
                         [[0], [-33], [2], [1], [-33]])

    def test_refused_changes_nothing(self):
        setup = [begin(6, 3), lot(0, 4, 7), hours(2)]
        self.assertTrue(changes_nothing(setup, 3, tank()))
        seven = [lot(0, 1) for l in range(7)]
        self.assertEqual(last(begin(6, 1), tank(), *seven), [-33])


class Hours(unittest.TestCase):
    def test_which_hour_it_is(self):
        self.assertEqual(ask(begin(1, 1), hours(1), hours(500), hours(20))[1:], [[1, 0], [501, 0], [521, 0]])

    def test_ends_of_the_range(self):
        for n in (0, 501, FAR):
            self.assertEqual(last(begin(1, 1), hours(n)), [-22])
            self.assertTrue(changes_nothing(SETUP, 3, hours(n)))

    def test_no_later_than_hour_10000(self):
        setup = [begin(1, 1)] + go_to(9999)
        self.assertEqual(last(*setup), [9999, 0])
        self.assertEqual(ask(*setup, hours(2), hours(500), hours(501), hours(0), hours(1), hours(1))[len(setup):],
                         [[-75], [-75], [-22], [-22], [10000, 0], [-75]])

    def test_how_many_ended_in_these(self):
        setup = [begin(3, 1), lot(0, 4), lot(1, 3), lot(2, 5), lot(4, 1), lot(5, 1)]
        self.assertEqual(ask(*setup, hours(3), hours(1), hours(1), hours(2), hours(9))[6:],
                         [[3, 0], [4, 2], [5, 1], [7, 2], [16, 0]])
        self.assertEqual(last(*setup, hours(500)), [500, 5])

    def test_neither_dropped_ones_nor_ended_ones_again(self):
        self.assertEqual(last(begin(2, 1), lot(0, 4), lot(0, 4), drop(0), hours(4)), [4, 1])
        self.assertEqual(ask(begin(2, 1), lot(0, 4), hours(4), lot(4, 1), hours(1))[-1], [5, 1])

    def test_too_late_changes_nothing(self):
        setup = [begin(2, 3), lot(9998, 3, 5), *go_to(9990)]
        self.assertEqual(last(*setup, hours(11)), [-75])
        self.assertEqual(ask(*setup, hours(11), hours(9), hours(2), lot(9998, 3), longer(0, 1), hours(1))[len(setup):],
                         [[-75], [9999, 0], [-75], [-16], [10002], [10000, 0]])


if __name__ == "__main__":
    unittest.main()
