"""common and through: promise 5."""

import unittest

from tests.lines import (
    HIGHEST, MAJOR, MAJOR_MODE, MINOR, MINOR_MODE, SEVENTH,
    Numbers, Told, ask, common, costs, kinds, last, modes, through,
)

NO_CHORDS = [[], list(range(9)), [0, 0], [3, 1, 3], [21], [-21], [0, 2147483647], [0, -2147483648]]


def pairs(answer):
    return [tuple(answer[place + 1:place + 3]) for place in range(1, len(answer), 3)]


class Common(unittest.TestCase):
    BEFORE = [modes([MAJOR_MODE, MINOR_MODE])]

    def test_keys_that_have_all_notes(self):
        # c e g is in c, f and g major, and in a, d and e minor.
        got = last(*self.BEFORE, common([[0, 4, 1]]))
        self.assertEqual(got, [6, 2, -1, 0, 2, 0, 0, 2, 1, 0, 2, 2, 1, 2, 3, 1, 2, 4, 1])
        # with b flat beside it: f major and d minor alone.
        self.assertEqual(last(*self.BEFORE, common([[0, 4, 1], [-2]])), [2, 2, -1, 0, 2, 2, 1])

    def test_no_key(self):
        self.assertEqual(last(*self.BEFORE, common([[0, 7]])), [0])
        self.assertEqual(last(*self.BEFORE, common([[0], [7]])), [0])
        self.assertEqual(last(*self.BEFORE, common([[20]])), [0])

    def test_no_chords(self):
        got = last(*self.BEFORE, common([]))
        self.assertEqual(got[0], 30)
        self.assertEqual(got[1::3], [2] * 30)
        self.assertEqual(pairs(got), [(tonic, mode) for tonic in range(-7, 8) for mode in range(2)])

    def test_no_modes(self):
        self.assertEqual(last(common([])), [0])
        self.assertEqual(last(common([[0]])), [0])

    def test_kinds_do_not_matter(self):
        self.assertEqual(last(*self.BEFORE, kinds([MAJOR]), common([[0, 1]])), last(*self.BEFORE, common([[0, 1]])))

    def test_order_by_tonics_then_modes(self):
        got = pairs(last(modes([MINOR_MODE, MAJOR_MODE, MAJOR_MODE]), common([[0]])))
        self.assertEqual(got, sorted(got))
        self.assertEqual(len(got), 21)

    def test_the_edges_of_tonics(self):
        far = [0, 20, 19, 18, 17, 16, 15]
        self.assertEqual(last(modes([far]), common([[13, -7]])), [1, 2, -7, 0])
        self.assertEqual(last(modes([[-note for note in far]]), common([[7, -13]])), [1, 2, 7, 0])

    def test_12_and_13_chords(self):
        self.assertEqual(last(*self.BEFORE, common([[0]] * 12)), last(*self.BEFORE, common([[0]])))
        for how_many in (13, 14, 70):
            self.assertEqual(last(*self.BEFORE, common([[0]] * how_many)), [-1])

    def test_a_chord_that_is_none(self):
        for none in NO_CHORDS:
            self.assertEqual(last(*self.BEFORE, common([none])), [-1])
            self.assertEqual(last(common([[0], none])), [-1])

    def test_against_the_documents_words(self):
        numbers = Numbers(5)
        for turn in range(200):
            lists = [numbers.notes(7, -5, 6, 0) for which in range(numbers.below(4))]
            told = Told([], lists, [0] * 6, [0] * 64)
            chords = [numbers.notes(1 + numbers.below(2), -8, 8) for which in range(numbers.below(4))]
            notes = {note for chord in chords for note in chord}
            expected = [key for key in told.keys() if notes <= set(told.scale(key))]
            got = last(*told.calls(), common(chords))
            self.assertEqual((got[0], pairs(got)), (len(expected), expected))


def some_told(numbers, most_kinds, most_modes, high):
    return Told(
        [numbers.notes(1 + numbers.below(4), -4, 5, 0) for which in range(1 + numbers.below(most_kinds))],
        [numbers.notes(7, -6, 6, 0) for which in range(1 + numbers.below(most_modes))],
        [numbers.below(high) for which in range(6)],
        [numbers.below(high) for which in range(64)],
    )


class Through(unittest.TestCase):
    BEFORE = [kinds([MAJOR, MINOR]), modes([MAJOR_MODE, MINOR_MODE])]

    def test_no_chords(self):
        self.assertEqual(last(through(0, [])), [0, 1, 1])
        self.assertEqual(last(*self.BEFORE, costs(*[5] * 6, [5] * 64), through(9, [])), [0, 1, 1])

    def test_one_chord(self):
        # c e g costs nothing in each of the six keys that have it; f major is the first.
        got = last(*self.BEFORE, costs(9, 9, 1, 4, 9, 9, [9] * 64), through(99, [[4, 0, 1]]))
        self.assertEqual(got, [1, 1, 6, 6, -1, 0, 0, 0, 2, 1])

    def test_out_for_each_note_the_key_has_not(self):
        got = last(kinds([[0]]), modes([MAJOR_MODE]), costs(0, 0, 0, 10), through(0, [[0, 20, -20]]))
        self.assertEqual(got, [20, 1, 7 * 3, 6, -5, 0, -20, 0, 1, 0])

    def test_the_way_of_a_cadence(self):
        told = costs(20, 20, 0, 10, 3, 1)
        got = last(*self.BEFORE, told, through(0, [[0, 1, 4], [1, 2, 5], [0, 1, 4]]))
        self.assertEqual(got[:3], [0, 1, 4])
        self.assertEqual(got[3:], [6, 0, 0, 0, 0, 0, 0, 6, 0, 0, 1, 0, 0, 0, 6, 0, 0, 0, 0, 0, 0])

    def test_key_for_each_fifth_either_way(self):
        before = [kinds([[0]]), modes([[0, -20, -19, -18, -17, -16, -15]])]
        told = costs(0, 0, 0, 100, 7)
        up = last(*before, told, through(0, [[0], [2]]))
        self.assertEqual(up, [14, 1, 1, 6, 0, 0, 0, 0, 0, 0, 6, 2, 0, 2, 0, 0, 0])
        down = last(*before, told, through(0, [[2], [0]]))
        self.assertEqual(down, [14, 1, 1, 6, 2, 0, 2, 0, 0, 0, 6, 0, 0, 0, 0, 0, 0])

    def test_mode_if_the_modes_differ(self):
        far = [0, -20, -19, -18, -17, -16, -15]
        flat = [0, -6, -5, -4, -3, -2, -1]
        told = costs(0, 0, 0, 100, 50, 9)
        got = last(kinds([[0]]), modes([far, flat]), told, through(0, [[7, -13], [7, 1]]))
        self.assertEqual(got[:3], [9, 1, 4])
        self.assertEqual(got[3:], [6, 7, 0, -13, 0, 1, 0, 6, 7, 1, 1, 0, 1, 0])

    def test_the_table_goes_by_both_roots_in_the_seconds_key(self):
        table = [1000] * 64
        table[8 * 4 + 0] = 1
        got = last(kinds([[0]]), modes([MAJOR_MODE]), costs(table=table), through(0, [[1], [0]]))
        self.assertEqual(got, [1, 1, 15, 6, -7, 0, 1, 0, 0, 0, 6, 0, 0, 0, 0, 0, 0])
        table = [1000] * 64
        table[8 * 7 + 7] = 2
        got = last(kinds([[0]]), modes([MAJOR_MODE]), costs(table=table), through(0, [[20], [-20]]))
        self.assertEqual(got[:3], [2, 1, 225])

    def test_modes_the_same_are_several(self):
        before = [kinds([[0]]), modes([MAJOR_MODE, MAJOR_MODE])]
        self.assertEqual(last(*before, costs(0, 0, 0, 0, 1, 0), through(0, [[0], [0]]))[:3], [0, 1, 60])
        self.assertEqual(last(*before, costs(0, 0, 0, 0, 1, 1), through(0, [[0], [0]]))[:3], [0, 1, 30])

    def test_no_way(self):
        self.assertEqual(last(kinds([MAJOR]), through(9, [[0]])), [-6])
        self.assertEqual(last(modes([MAJOR_MODE]), through(9, [[0]])), [-6])
        before = [kinds([MAJOR]), modes([MAJOR_MODE]), costs(10)]
        self.assertEqual(last(*before, through(19, [[0]])), [-6])
        self.assertEqual(last(*before, through(20, [[0]]))[:3], [20, 1, 15])
        self.assertEqual(last(*before, through(19, [[0, 1, 4], [0], [0, 1, 4]])), [-6])
        self.assertEqual(last(*before, through(19, [[0, 1, 4], [0, 1, 4], [0]])), [-6])

    def test_most_limits_each_name_not_the_way(self):
        before = [kinds([MAJOR]), modes([MAJOR_MODE]), costs(10)]
        self.assertEqual(last(*before, through(20, [[0]] * 12))[0], 240)

    def test_a_costlier_name_may_be_the_cheaper_way(self):
        table = [500] * 64
        table[8 * 0 + 1] = 0
        before = [kinds([[0]]), modes([MAJOR_MODE]), costs(0, 0, 10, 1000, 1000, 0, table)]
        got = last(*before, through(10, [[0, 2, 4, -1, 1, 3, 5], [1, 2]]))
        self.assertEqual(got, [10, 1, 1, 6, 0, 0, 0, 0, 0, 0, 6, 0, 0, 2, 0, 1, 10])
        self.assertEqual(last(*before, through(9, [[0, 2, 4, -1, 1, 3, 5], [1, 2]]))[0], 500)

    def test_12_and_13_chords(self):
        self.assertEqual(last(*self.BEFORE, through(0, [[0]] * 12))[:3], [0, 1, 60 ** 12])
        for how_many in (13, 14, 70):
            self.assertEqual(last(*self.BEFORE, through(0, [[0]] * how_many)), [-1])

    def test_a_chord_that_is_none(self):
        for none in NO_CHORDS:
            self.assertEqual(last(*self.BEFORE, through(9, [none])), [-1])
            self.assertEqual(last(*self.BEFORE, through(9, [[0], none, [1]])), [-1])

    def test_no_chord_is_told_ahead_of_no_way(self):
        self.assertEqual(last(through(0, [[]])), [-1])
        self.assertEqual(last(through(0, [[0]] * 13)), [-1])
        self.assertEqual(last(*self.BEFORE, costs(1), through(0, [[0], [21]])), [-1])

    def test_all_ways_through_one_or_two_chords(self):
        numbers = Numbers(6)
        for turn in range(60):
            told = some_told(numbers, 3, 2, 1 + numbers.below(6))
            chords = [numbers.notes(1 + numbers.below(3), -5, 5) for which in range(1 + numbers.below(2))]
            most = numbers.below(12)
            self.assertEqual(last(*told.calls(), through(most, chords)), told.through(most, chords))

    def test_all_ways_through_three_chords(self):
        numbers = Numbers(7)
        for turn in range(12):
            told = some_told(numbers, 2, 1, 1 + numbers.below(5))
            chords = [numbers.notes(1 + numbers.below(2), -5, 5) for which in range(3)]
            most = 2 + numbers.below(6)
            self.assertEqual(last(*told.calls(), through(most, chords)), told.through(most, chords))

    def test_longer_rows_each_step_with_each_next_one(self):
        numbers = Numbers(8)
        for turn in range(12):
            told = some_told(numbers, 2, 2, 2 + numbers.below(3))
            chords = [numbers.notes(1 + numbers.below(3), -5, 5) for which in range(3 + numbers.below(3))]
            got = last(*told.calls(), through(HIGHEST, chords))
            self.assertEqual(got, told.through_by_steps(HIGHEST, chords))


if __name__ == "__main__":
    unittest.main()
