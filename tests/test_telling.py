"""begins, kinds, modes, costs: promises 1 to 3."""

import unittest

from tests.lines import (
    HIGHEST, MAJOR, MAJOR_MODE, MINOR, MINOR_MODE,
    ask, begins, common, costs, degree, kinds, last, modes, names, through,
)

FAR = [-2147483648, -21, 21, 2147483647]


class Begins(unittest.TestCase):
    def test_answers_0(self):
        self.assertEqual(ask(begins()), [[0]])
        self.assertEqual(ask(begins(), begins()), [[0], [0]])

    def test_at_a_lines_beginning_nothing_is_there(self):
        self.assertEqual(
            ask(names(9, [0]), degree(0, 0, []), common([]), through(0, [[0]])),
            [[0], [-2], [0], [-6]],
        )

    def test_at_a_lines_beginning_nothing_costs_anything(self):
        got = last(kinds([MAJOR]), names(0, [2, 7]))
        self.assertEqual(got, [2, 4, 2, 0, 0, 0, 4, 7, 0, 3, 0])
        got = last(kinds([MAJOR]), modes([MAJOR_MODE]), through(0, [[20], [-20]]))
        self.assertEqual(got[:3], [0, 1, 15 * 15])

    def test_begins_takes_kinds_and_modes_away(self):
        before = [kinds([MAJOR]), modes([MAJOR_MODE])]
        self.assertEqual(last(*before, begins(), names(9, [0])), [0])
        self.assertEqual(last(*before, begins(), degree(0, 0, [0])), [-2])
        self.assertEqual(last(*before, begins(), common([[0]])), [0])
        self.assertEqual(last(*before, begins(), through(9, [[0]])), [-6])

    def test_begins_takes_each_cost_away(self):
        for which in range(7):
            told = [5] * 6 + [[5] * 64] if which == 6 else [5 * (which == place) for place in range(6)]
            after = [kinds([MINOR]), modes([MAJOR_MODE]), through(0, [[0, 1, 4], [5, 6]])]
            with self.subTest(which=which):
                self.assertEqual(last(costs(*told), begins(), *after), last(*after))


class Kinds(unittest.TestCase):
    def refused(self, lists):
        """Refused, and the kinds are those before."""
        got = ask(kinds([MAJOR, MINOR]), kinds(lists), names(9, [3]))
        self.assertEqual(got, [[2], [-1], [2, 4, 3, 0, 0, 0, 4, 3, 1, 0, 0]])

    def taken(self, lists):
        got = ask(kinds(lists), names(0, [3]))
        self.assertEqual(got[0], [len(lists)])
        self.assertEqual(got[1][0], len(lists))

    def test_how_many(self):
        for how_many in range(11):
            self.taken([MAJOR] * how_many)
        for how_many in (11, 12, 70):
            self.refused([MAJOR] * how_many)

    def test_instead_of_those_before(self):
        got = last(kinds([MAJOR, MINOR]), kinds([[0, 5]]), costs(1), names(9, [0, 5]))
        self.assertEqual(got, [2, 4, 0, 0, 0, 0, 4, 5, 0, 2, 1])
        self.assertEqual(last(kinds([MAJOR]), kinds([]), names(9, [0])), [0])

    def test_how_many_notes(self):
        for how_many in range(1, 7):
            self.taken([list(range(how_many))])
        self.refused([[]])
        self.refused([list(range(7))])
        self.refused([list(range(21))])
        self.refused([[0] * 70])

    def test_0_stands_first(self):
        self.refused([[1]])
        self.refused([[1, 0, 4]])
        self.refused([[-1, 0]])

    def test_no_two_the_same(self):
        self.refused([[0, 0]])
        self.refused([[0, 1, 4, 1]])

    def test_from_minus_20_to_20(self):
        self.taken([[0, -20, 20]])
        for far in FAR:
            self.refused([[0, far]])

    def test_one_wrong_among_right_ones(self):
        self.refused([MAJOR, MINOR, [1]])
        self.refused([[0, 0], MAJOR])
        self.refused([MAJOR] * 10 + [[]])


class Modes(unittest.TestCase):
    def refused(self, lists):
        """Refused, and the modes are those before."""
        got = ask(modes([MAJOR_MODE]), modes(lists), degree(0, 0, [5]), degree(0, 1, []))
        self.assertEqual(got, [[1], [-1], [1, 1, 6], [-2]])

    def taken(self, lists):
        self.assertEqual(ask(modes(lists), common([])), [[len(lists)], last(modes(lists), common([]))])
        self.assertEqual(last(modes(lists), common([]))[0], 15 * len(lists))

    def test_how_many(self):
        for how_many in range(4):
            self.taken([MAJOR_MODE] * how_many)
        for how_many in (4, 5, 70):
            self.refused([MAJOR_MODE] * how_many)

    def test_instead_of_those_before(self):
        got = ask(modes([MAJOR_MODE, MAJOR_MODE]), modes([MINOR_MODE]), degree(0, 0, [-3, 4]), degree(0, 1, []))
        self.assertEqual(got, [[2], [1], [2, 2, 2, 7], [-2]])
        self.assertEqual(ask(modes([MAJOR_MODE]), modes([]), degree(0, 0, [])), [[1], [0], [-2]])

    def test_seven_notes(self):
        for how_many in (0, 1, 6, 8, 21):
            self.refused([list(range(how_many))])
        self.taken([list(range(7))])

    def test_0_stands_first(self):
        self.refused([[2, 0, 4, -1, 1, 3, 5]])
        self.refused([[1, 2, 3, 4, 5, 6, 7]])

    def test_no_two_the_same(self):
        self.refused([[0, 2, 4, -1, 1, 3, 2]])
        self.refused([[0, 2, 4, -1, 1, 3, 0]])

    def test_from_minus_20_to_20(self):
        self.taken([[0, -20, 20, 1, 2, 3, 4]])
        for far in FAR:
            self.refused([[0, 1, 2, 3, 4, 5, far]])

    def test_one_wrong_among_right_ones(self):
        self.refused([MAJOR_MODE, MAJOR])
        self.refused([MAJOR, MAJOR_MODE])

    def test_kinds_and_modes_leave_each_other_alone(self):
        got = ask(kinds([MAJOR]), modes([MAJOR_MODE]), kinds([]), degree(0, 0, [0]))
        self.assertEqual(got[-1], [1, 1, 0])
        got = ask(kinds([MAJOR]), modes([MAJOR_MODE]), modes([]), names(0, [0]))
        self.assertEqual(got[-1], [1, 4, 0, 0, 0, 0])


class Costs(unittest.TestCase):
    # Each cost, the six and the table's, shows in what this way costs.
    ASKED = [kinds([[0, 1]]), modes([MAJOR_MODE, [0, 7, 8, 9, 10, 11, 12]]), through(HIGHEST, [[0, 4], [1, 9]])]
    BEFORE = costs(3, 5, 7, 11, 13, 17, [place % 8 + 19 for place in range(64)])

    def refused(self, call):
        """Refused, and what things cost is as it was."""
        got = ask(self.BEFORE, call, *self.ASKED)
        self.assertEqual(got[:2], [[0], [-1]])
        self.assertEqual(got[-1], last(self.BEFORE, *self.ASKED))

    def test_answers_0(self):
        self.assertEqual(ask(self.BEFORE), [[0]])
        self.assertEqual(ask(costs()), [[0]])

    def test_10000_and_above(self):
        self.assertEqual(ask(costs(*[10000] * 6, [10000] * 64)), [[0]])
        for place in range(6):
            for high in (10001, HIGHEST):
                told = [0] * 6
                told[place] = high
                self.refused(costs(*told))

    def test_10000_and_above_in_the_table(self):
        for place in (0, 1, 8, 31, 63):
            for high in (10001, HIGHEST):
                table = [0] * 64
                table[place] = high
                self.refused(costs(table=table))

    def test_a_table_of_64(self):
        for how_many in (0, 1, 63, 65, 70):
            self.refused(costs(1, 2, 3, 4, 5, 6, [0] * how_many))
        self.assertEqual(ask(costs(table=[1] * 64)), [[0]])

    def test_both_at_once(self):
        self.refused(costs(10001, table=[]))

    def test_costs_are_instead_of_those_before(self):
        self.assertEqual(last(self.BEFORE, costs(), *self.ASKED)[0], 0)

    def test_costs_stay_when_kinds_and_modes_are_told(self):
        self.assertEqual(last(kinds([MAJOR]), costs(2), kinds([MINOR]), names(9, [0])), [1, 4, 0, 0, 0, 4])
        self.assertEqual(last(costs(2), kinds([MINOR]), modes([]), names(9, [0])), [1, 4, 0, 0, 0, 4])

    def test_kinds_and_modes_stay_when_costs_are_told(self):
        got = ask(kinds([MAJOR]), modes([MAJOR_MODE]), costs(), names(0, [0]), degree(0, 0, [0]))
        self.assertEqual(got[-2:], [[1, 4, 0, 0, 0, 0], [1, 1, 0]])


if __name__ == "__main__":
    unittest.main()
