"""The interface: how calls are written, how answers are told, and that nothing is kept or changed."""

import unittest

from cleaningtanks.tanks import answers
from tests.helper import FAR, ask, at, begin, drop, fewest, hours, last, longer, lot, most, peak, plan, tank, tankof


class Written(unittest.TestCase):
    def test_answers_one_behind_another(self):
        self.assertEqual(answers([0, 1, 1]), [1, 0])
        self.assertEqual(answers([6]), [1, -11])
        self.assertEqual(answers([0, 1, 1, 9, 6, 0, 0, 0]), [1, 0, 1, 0, 1, 0, 1, -22])
        self.assertEqual(answers([0, 2, 1, 1, 3, 4, 9, 1, 5, 4, 8, 9]), [1, 0, 1, 0, 1, 1, 5, 2, 0, 0, 1, 1])

    def test_rows_have_their_length_before_them(self):
        self.assertEqual(answers([7, 0, 7, 3, 0, 0, 0, 0, 1, 1, 7, 0, 7, 1, 6, 6]),
                         [1, -11, 1, -11, 1, 0, 1, 0, 1, -2, 1, 0])

    def test_an_argument_is_no_call(self):
        self.assertEqual(answers([2, 0, 10, 0, 0, 1, 1]), [1, -11, 1, -11, 1, 0])

    def test_256_calls(self):
        self.assertEqual(ask(begin(1, 1), *[fewest()] * 255), [[0]] * 256)
        self.assertEqual(ask(*[peak(*range(40))] * 256), [[-11]] * 256)

    def test_any_value_of_its_kind(self):
        calls = [lot(FAR, FAR, FAR), drop(FAR), longer(FAR, FAR), hours(FAR), at(FAR), tankof(FAR), most(FAR),
                 begin(FAR, FAR), peak(65535)]
        self.assertEqual(ask(begin(1, 1), *calls)[1:], [[-22], [-2], [-2], [-22], [-22], [-2], [-22], [-22], [-2]])


class NothingKept(unittest.TestCase):
    def lines(self):
        calls = [begin(2, 3), lot(0, 5, 10), lot(5, 5, 20), lot(0, 3, 30), peak(0, 1), peak(0, 0), longer(1, 4),
                 tank(), hours(4), drop(2), plan(), at(6), most(1), begin(0, 0), lot(0, 1), tankof(1)]
        flat = [number for call in calls for number in call]
        return [flat, flat[3:], [0, 6, 500], [9], flat + flat]

    def test_what_is_handed_in_is_as_it_was(self):
        for line in self.lines():
            handed = list(line)
            answers(handed)
            self.assertEqual(handed, line)

    def test_a_second_time_as_the_first(self):
        first = [answers(line) for line in self.lines()]
        again = [answers(line) for line in self.lines()]
        self.assertEqual(again, first)
        self.assertEqual([answers(line) for line in reversed(self.lines())], first[::-1])

    def test_what_is_given_back_is_a_new_list(self):
        line = [0, 1, 1, 9]
        first = answers(line)
        first.append(99)
        self.assertEqual(answers(line), [1, 0, 1, 0])
        self.assertIsNot(answers(line), line)

    def test_not_begun_anew_by_an_earlier_list(self):
        answers([0, 1, 1])
        self.assertEqual(last(fewest()), [-11])


if __name__ == "__main__":
    unittest.main()
