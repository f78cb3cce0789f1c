"""The interface: how calls are written, how answers are told, and that nothing is kept or changed."""

import unittest

from cleaningtanks.tanks import answers
from tests.helper import (FAR, ask, at, begin, busy, drop, every_call, fewest, first, firstwith, hours, last, left,
                          longer, look, lot, may, meets, most, mostof, peak, plan, ready, state, sums, tank, tankof,
                          together)


class Unchanging(list):
    """A list that fails as soon as something is to change it."""

    def refuse(self, *told):
        raise AssertionError("what is handed in is changed")

    append = clear = extend = insert = pop = remove = reverse = sort = refuse
    __setitem__ = __delitem__ = __iadd__ = __imul__ = refuse


class Written(unittest.TestCase):
    def test_answers_one_behind_another(self):
        self.assertEqual(answers([0, 1, 1]), [1, 0])
        self.assertEqual(answers([6]), [1, -11])
        self.assertEqual(answers([0, 1, 1, 9, 6, 0, 0, 0]), [1, 0, 1, 0, 1, 0, 1, -22])
        self.assertEqual(answers([0, 2, 1, 1, 3, 4, 9, 1, 5, 4, 8, 9]), [1, 0, 1, 0, 1, 1, 5, 2, 0, 0, 1, 1])

    def test_rows_have_their_length_before_them(self):
        self.assertEqual(answers([7, 0, 7, 3, 0, 0, 0, 0, 1, 1, 7, 0, 7, 1, 6, 6]),
                         [1, -11, 1, -11, 1, 0, 1, 0, 1, -2, 1, 0])
        self.assertEqual(answers([12, 1, 2, 6, 6, 13, 1, 6, 0, 1, 1, 12, 6, 0, 13, 0, 12, 0, 1, 23, 13, 2, 23, 22, 6]),
                         [1, -11, 1, -11, 1, 0, 1, 0, 1, 1, 1, -2, 1, -2, 1, 0])

    def test_each_call_by_its_number(self):
        line = [0, 2, 3, 1, 4, 6, 70, 1, 0, 5, 8, 4, 14, 0, 13, 2, 0, 1, 12, 1, 2, 1, 0, 15, 4, 1, 16, 4, 1,
                17, 2, 4, 1, 17, 1, 4, 1, 5, 6, 18, 19, 0, 20, 21, 0, 22, 23, 3, 0, 1, 10, 0, 11, 1, 9, 8, 4, 7, 1, 1,
                6, 2, 1]
        self.assertEqual(answers(line), [1, 0, 1, 0, 1, 1, 1, 3, 2, 1, 1, 1, 0, 2, 1, 1, 1, 1, 1, 4, 1, 5, 1, 10,
                                         2, 6, 1, 2, 1, 1, 1, 4, 2, 11, 10, 4, 4, 10, 70, 1, 4, 0, 2, 78, 1,
                                         5, 0, 6, 3, 3, 2, 1, 11, 1, 1, 2, 1, 1, 5, 2, 1, 0, 0, 1, 3, 2, 0, 1, 1, 1,
                                         1, 2, 2, 8, 1])

    def test_in_any_order(self):
        calls = every_call()
        for turn in range(24):
            got = ask(*calls[turn:], *calls[:turn])
            self.assertEqual(got[:(24 - turn) % 24], [[-11]] * ((24 - turn) % 24))
            self.assertEqual(got[(24 - turn) % 24], [0])

    def test_an_argument_is_no_call(self):
        self.assertEqual(answers([2, 0, 10, 0, 0, 1, 1]), [1, -11, 1, -11, 1, 0])

    def test_256_calls(self):
        self.assertEqual(ask(begin(1, 1), *[fewest()] * 255), [[0]] * 256)
        self.assertEqual(ask(*[peak(*range(40))] * 256), [[-11]] * 256)
        self.assertEqual(ask(begin(1, 1), *[mostof(6, *range(40))] * 255), [[0]] + [[-22]] * 255)

    def test_any_value_of_its_kind(self):
        calls = [lot(FAR, FAR, FAR), drop(FAR), longer(FAR, FAR), hours(FAR), at(FAR), tankof(FAR), most(FAR),
                 begin(FAR, FAR), peak(65535)]
        self.assertEqual(ask(begin(1, 1), *calls)[1:], [[-22], [-2], [-2], [-22], [-22], [-2], [-22], [-22], [-2]])
        calls = [mostof(FAR, 65535), mostof(0, 65535), together(65535), meets(FAR), may(FAR, FAR), first(FAR, FAR),
                 firstwith(FAR, FAR, FAR), left(FAR), look(FAR)]
        self.assertEqual(ask(begin(1, 1), *calls)[1:], [[-22], [-2], [-2], [-2], [-22], [-22], [-22], [-2], [-2]])


class NothingKept(unittest.TestCase):
    def calls(self):
        return [begin(2, 3), lot(0, 5, 10), lot(5, 5, 20), lot(0, 3, 30), peak(0, 1), peak(0, 0), longer(1, 4),
                tank(), hours(4), drop(2), plan(), at(6), most(1), begin(0, 0), lot(0, 1), tankof(1), fewest(),
                mostof(1, 1, 0), mostof(7, 9), together(1, 0), together(*range(40)), meets(0), may(4, 3), first(0, 9),
                firstwith(1, 0, 9), ready(), left(1), busy(), look(0), sums(), state()]

    def lines(self):
        flat = [number for call in self.calls() for number in call]
        return [flat, flat[3:], [0, 6, 500], [9], flat + flat]

    def test_each_call_is_among_these(self):
        self.assertEqual(sorted({call[0] for call in self.calls()}), list(range(24)))

    def test_what_is_handed_in_is_as_it_was(self):
        for line in self.lines():
            handed = list(line)
            answers(handed)
            self.assertEqual(handed, line)

    def test_nor_is_it_changed_for_a_while(self):
        for line in self.lines():
            self.assertEqual(answers(Unchanging(line)), answers(line))

    def test_a_second_time_as_the_first(self):
        first = [answers(line) for line in self.lines()]
        again = [answers(line) for line in self.lines()]
        self.assertEqual(again, first)
        self.assertEqual([answers(line) for line in reversed(self.lines())], first[::-1])

    def test_what_is_given_back_is_a_new_list(self):
        line = [0, 1, 1, 9]
        first = answers(line)
        first.append(99)
        self.assertEqual(answers(line), [1, 0, 1, 0])
        self.assertIsNot(answers(line), line)

    def test_not_begun_anew_by_an_earlier_list(self):
        answers([0, 1, 1])
        self.assertEqual(last(fewest()), [-11])


if __name__ == "__main__":
    unittest.main()
