"""names and degree: promise 4."""

import unittest

from tests.lines import (
    HIGHEST, MAJOR, MAJOR_MODE, MINOR, MINOR_MODE, SEVENTH,
    Numbers, Told, ask, costs, degree, kinds, last, modes, names,
)


class Names(unittest.TestCase):
    def test_c_major_whichever_is_lowest(self):
        before = [kinds([MAJOR, MINOR]), costs(10, 10, 1)]
        self.assertEqual(last(*before, names(1, [0, 4, 1])), [1, 4, 0, 0, 0, 0])
        self.assertEqual(last(*before, names(1, [4, 0, 1])), [1, 4, 0, 0, 2, 1])
        self.assertEqual(last(*before, names(1, [1, 4, 0])), [1, 4, 0, 0, 1, 1])

    def test_several_things(self):
        # a c e g: a minor with a note too many, or c major with one.
        got = last(kinds([MAJOR, MINOR]), costs(10, 3, 1), names(9, [3, 0, 4, 1]))
        self.assertEqual(got, [2, 4, 3, 1, 0, 3, 4, 0, 0, 3, 4])

    def test_miss_for_each_note_that_is_missed(self):
        before = [kinds([SEVENTH]), costs(100)]
        for chord, cost in (([0, 4, 1, -2], 0), ([0, 4, 1], 100), ([0, 4], 200), ([0], 300), ([0, 5, 7], 300)):
            self.assertIn([0, 0, 0, cost], self.each(last(*before, names(HIGHEST, chord))))

    def each(self, answer):
        self.assertEqual(len(answer), 1 + 5 * answer[0])
        self.assertEqual(answer[1::5], [4] * answer[0])
        return [answer[place + 1:place + 5] for place in range(1, len(answer), 5)]

    def test_extra_for_each_note_too_many(self):
        before = [kinds([[0]]), costs(0, 100)]
        for how_many in range(1, 9):
            got = self.each(last(*before, names(HIGHEST, list(range(how_many)))))
            self.assertEqual([name[3] for name in got], [100 * (how_many - 1)] * how_many)

    def test_turned_only_if_the_bass_is_not_the_root(self):
        got = self.each(last(kinds([MAJOR]), costs(0, 0, 7), names(HIGHEST, [4, 0, 1])))
        self.assertEqual(got, [[4, 0, 0, 0], [0, 0, 2, 7], [1, 0, 3, 7]])

    def test_turn_when_the_bass_is_no_note_of_the_kind(self):
        for kind in ([0], MAJOR, SEVENTH, [0, 1, 2, 3, 4, 5]):
            got = self.each(last(kinds([kind]), names(HIGHEST, [-5, 0])))
            self.assertIn([0, 0, len(kind), 0], got)
            self.assertIn([-5, 0, 0, 0], got)

    def test_just_most_and_above(self):
        before = [kinds([MAJOR]), costs(10, 0, 3)]
        self.assertEqual(last(*before, names(9, [0, 1])), [0])
        self.assertEqual(last(*before, names(10, [0, 1])), [1, 4, 0, 0, 0, 10])
        self.assertEqual(last(*before, names(22, [0, 1])), [1, 4, 0, 0, 0, 10])
        self.assertEqual(last(*before, names(23, [0, 1])), [2, 4, 0, 0, 0, 10, 4, 1, 0, 3, 23])
        self.assertEqual(last(*before, names(HIGHEST, [0, 1])), [2, 4, 0, 0, 0, 10, 4, 1, 0, 3, 23])

    def test_equal_cost_by_root_then_kind(self):
        got = self.each(last(kinds([MINOR, MAJOR, [0]]), names(0, [3, -4, 1])))
        self.assertEqual([name[:2] for name in got], [[root, kind] for root in (-4, 1, 3) for kind in range(3)])

    def test_cheaper_ahead_of_lower(self):
        got = self.each(last(kinds([MAJOR, [0]]), costs(1), names(9, [8, -3])))
        self.assertEqual(got, [[-3, 1, 1, 0], [8, 1, 0, 0], [-3, 0, 3, 2], [8, 0, 0, 2]])

    def test_no_kinds(self):
        self.assertEqual(last(names(HIGHEST, [0, 1, 4])), [0])
        self.assertEqual(last(kinds([]), names(0, [0])), [0])

    def test_kinds_the_same_are_several_names(self):
        self.assertEqual(last(kinds([MAJOR, MAJOR]), names(0, [0])), [2, 4, 0, 0, 0, 0, 4, 0, 1, 0, 0])

    def test_notes_of_the_kind_beyond_20_are_missed(self):
        got = last(kinds([[0, 20]]), costs(5), names(9, [20, -20]))
        self.assertEqual(got, [2, 4, -20, 0, 2, 5, 4, 20, 0, 0, 5])

    def test_how_many_notes(self):
        before = [kinds([[0]])]
        for how_many in range(1, 9):
            self.assertEqual(last(*before, names(0, list(range(how_many))))[0], how_many)
        for how_many in (0, 9, 10, 21):
            self.assertEqual(last(*before, names(0, list(range(how_many)))), [-1])
        self.assertEqual(last(*before, names(0, list(range(70)))), [-1])

    def test_two_notes_the_same(self):
        self.assertEqual(last(kinds([[0]]), names(0, [3, 3])), [-1])
        self.assertEqual(last(kinds([[0]]), names(0, [3, 1, 3])), [-1])

    def test_from_minus_20_to_20(self):
        self.assertEqual(last(kinds([[0]]), names(0, [20, -20]))[0], 2)
        for far in (-2147483648, -21, 21, 2147483647):
            self.assertEqual(last(kinds([[0]]), names(0, [far])), [-1])
            self.assertEqual(last(kinds([[0]]), names(0, [0, far])), [-1])

    def test_refused_without_kinds_too(self):
        self.assertEqual(last(names(0, [])), [-1])

    def test_the_highest_costs_and_the_most_names(self):
        ten = [[0, 1, 2, 3, 4, place + 5] for place in range(10)]
        chord = [-13, -10, -7, -4, 14, 17, 20, 0]
        told = Told(ten, [], [10000] * 6, [10000] * 64)
        got = self.each(last(*told.calls(), names(HIGHEST, chord)))
        self.assertEqual(len(got), 80)
        self.assertEqual(got, [list(name) for name in told.names(HIGHEST, chord)])

    def test_against_the_documents_words(self):
        numbers = Numbers(4)
        for turn in range(300):
            lists = [numbers.notes(1 + numbers.below(6), -6, 6, 0) for which in range(numbers.below(6))]
            told = Told(lists, [], [numbers.below(4) for which in range(6)], [0] * 64)
            chord = numbers.notes(1 + numbers.below(8), -6, 6)
            most = numbers.below(20)
            got = self.each(last(*told.calls(), names(most, chord)))
            self.assertEqual(got, [list(name) for name in told.names(most, chord)])


class Degree(unittest.TestCase):
    BEFORE = [modes([MAJOR_MODE, MINOR_MODE])]

    def test_places_in_the_mode(self):
        self.assertEqual(last(*self.BEFORE, degree(0, 0, MAJOR_MODE)), [7, 7, 0, 1, 2, 3, 4, 5, 6])
        g_major = [note + 1 for note in MAJOR_MODE]
        self.assertEqual(last(*self.BEFORE, degree(1, 0, g_major)), [7, 7, 0, 1, 2, 3, 4, 5, 6])
        a_minor = [note + 3 for note in MINOR_MODE]
        self.assertEqual(last(*self.BEFORE, degree(3, 1, a_minor)), [7, 7, 0, 1, 2, 3, 4, 5, 6])

    def test_a_note_that_is_not_there(self):
        self.assertEqual(last(*self.BEFORE, degree(0, 0, [6, 0, -2, 20, -20])), [5, 5, 7, 0, 7, 7, 7])

    def test_no_notes(self):
        self.assertEqual(ask(*self.BEFORE, degree(0, 0, [])), [[2], [0, 0]])

    def test_notes_may_come_again_and_up_to_70(self):
        self.assertEqual(last(*self.BEFORE, degree(0, 0, [1] * 70)), [70, 70] + [4] * 70)

    def test_tonics(self):
        for tonic in range(-7, 8):
            self.assertEqual(last(*self.BEFORE, degree(tonic, 0, [tonic])), [1, 1, 0])
        for tonic in (-2147483648, -8, 8, 2147483647):
            self.assertEqual(last(*self.BEFORE, degree(tonic, 0, [0])), [-1])
            self.assertEqual(last(*self.BEFORE, degree(tonic, 0, [])), [-1])

    def test_something_that_is_no_note(self):
        for far in (-2147483648, -21, 21, 2147483647):
            self.assertEqual(last(*self.BEFORE, degree(0, 0, [far])), [-1])
            self.assertEqual(last(*self.BEFORE, degree(0, 1, [0, 1, far, 2])), [-1])

    def test_no_such_mode(self):
        for mode in (2, 3, HIGHEST):
            self.assertEqual(last(*self.BEFORE, degree(0, mode, [0])), [-2])
            self.assertEqual(last(*self.BEFORE, degree(0, mode, [])), [-2])
        self.assertEqual(last(degree(0, 0, [])), [-2])

    def test_no_such_mode_is_told_first(self):
        self.assertEqual(last(*self.BEFORE, degree(8, 2, [0])), [-2])
        self.assertEqual(last(*self.BEFORE, degree(0, 2, [21])), [-2])
        self.assertEqual(last(*self.BEFORE, degree(-8, HIGHEST, [-21])), [-2])


if __name__ == "__main__":
    unittest.main()
