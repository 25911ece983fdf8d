"""The interface: how calls are told and answered, and what holds over the whole program."""

import contextlib
import io
import unittest

import chordnames.keys
from chordnames.keys import answers
from tests.lines import (
    HIGHEST, MAJOR, MAJOR_MODE, MINOR, MINOR_MODE,
    Told, ask, begins, common, costs, degree, kinds, modes, names, split, through, told,
)

TEN_KINDS = [
    [0, 4, 1], [0, -3, 1], [0, 4, 8], [0, -3, -6], [0, 4, 1, -2],
    [0, 4, 1, 5], [0, -3, 1, -2], [0, -3, -6, -9], [0, 4, 1, -2, 2], [0, 4, 1, -2, 2, 3],
]
THREE_MODES = [MAJOR_MODE, MINOR_MODE, [0, 2, -3, -1, 1, -4, 5]]
EIGHT_NOTES = [[(note * 3 + place) % 17 - 8 for note in range(8)] for place in range(12)]
SOME_TABLE = [(place * 7) % 11 for place in range(64)]

ALL_CALLS = told(
    kinds([MAJOR, MINOR]), modes([MAJOR_MODE, MINOR_MODE]), costs(4, 3, 2, 5, 1, 2, SOME_TABLE),
    names(9, [4, 0, 1]), degree(1, 1, [0, 6]), common([[0, 1]]), through(20, [[0, 1, 4], [1, 2, 5]]),
    kinds([[1]]), modes([[]]), costs(10001), names(0, []), degree(8, 0, []), common([[]]), through(0, [[]]),
    begins(),
)


class Untouched(list):
    """A list that refuses to be changed, even for a while."""

    def refuse(self, *words):
        raise AssertionError("what is handed in was changed")

    __setitem__ = __delitem__ = __iadd__ = __imul__ = refuse
    append = extend = insert = pop = remove = clear = sort = reverse = refuse


class Form(unittest.TestCase):
    def test_number_by_number(self):
        line = [
            0, 5, 1, 1, 2, 0, 1,
            0, 10, 2, 1, 7, 0, 1, 2, 3, 4, 5, 6,
            0, 72, 3, 4, 3, 2, 1, 1, 1, 64, *[0] * 64,
            0, 5, 4, 4, 2, 1, 0,
            0, 6, 5, 1, 0, 2, 1, 0,
            0, 6, 6, 2, 1, 13, 1, 7,
            0, 5, 7, 0, 1, 1, 0,
            0, 7, 7, 4294967295, 2, 1, -7, 1, -6,
            0, 1, 0,
        ]
        self.assertEqual(answers(line), [
            1, 1,
            1, 1,
            1, 0,
            6, 1, 4, 0, 0, 1, 2,
            4, 2, 2, 0, 7,
            4, 1, 2, 7, 0,
            1, -6,
            17, 8, 1, 1, 6, -7, 0, -7, 0, 0, 4, 6, -7, 0, -6, 0, 0, 4,
            1, 0,
        ])

    def test_one_call_alone(self):
        self.assertEqual(answers([0, 1, 0]), [1, 0])
        self.assertEqual(answers([0, 3, 7, 0, 0]), [3, 0, 1, 1])
        self.assertEqual(answers([0, 2, 6, 0]), [1, 0])

    def test_a_refusal_is_a_number_alone(self):
        got = ask(names(0, []), degree(0, 0, []), through(0, [[0]]))
        self.assertEqual(got, [[-1], [-2], [-6]])

    def test_whole_numbers_only(self):
        got = answers(list(ALL_CALLS))
        self.assertIs(type(got), list)
        self.assertEqual({type(number) for number in got}, {int})

    def test_the_package_has_the_function(self):
        self.assertIs(chordnames.keys.answers, answers)


class WholeProgram(unittest.TestCase):
    def test_what_is_handed_in_is_not_changed(self):
        line = Untouched(ALL_CALLS)
        self.assertEqual(answers(line), answers(list(ALL_CALLS)))
        self.assertEqual(line, ALL_CALLS)

    def test_what_is_given_back_is_new(self):
        first = answers(ALL_CALLS)
        kept = list(first)
        first.clear()
        self.assertEqual(answers(ALL_CALLS), kept)

    def test_a_second_time_is_as_the_first(self):
        line = list(ALL_CALLS)
        self.assertEqual(answers(line), answers(line))

    def test_nothing_is_kept_from_one_time_to_the_next(self):
        ask(kinds([MAJOR]), modes([MAJOR_MODE]), costs(5, 5, 5, 5, 5, 5, [5] * 64))
        self.assertEqual(ask(names(99, [0]), degree(0, 0, []), through(99, [[0]])), [[0], [-2], [-6]])
        self.assertEqual(ask(kinds([MAJOR]), names(0, [0])), [[1], [1, 4, 0, 0, 0, 0]])

    def test_it_prints_nothing(self):
        out, err = io.StringIO(), io.StringIO()
        with contextlib.redirect_stdout(out), contextlib.redirect_stderr(err):
            answers(ALL_CALLS)
        self.assertEqual((out.getvalue(), err.getvalue()), ("", ""))


class Large(unittest.TestCase):
    def test_30_calls_through_12_chords_of_8_notes(self):
        before = [kinds(TEN_KINDS), modes(THREE_MODES), costs(3, 2, 1, 2, 3, 4, SOME_TABLE)]
        got = ask(*before, *[through(HIGHEST, EIGHT_NOTES)] * 27)
        self.assertEqual(len(got), 30)
        for answer in got[3:]:
            self.assertEqual(answer, got[3])
        self.assertEqual(len(got[3]), 3 + 12 * 7)

    def test_the_way_that_is_told_costs_what_is_told(self):
        plain = Told(TEN_KINDS, THREE_MODES, [3, 2, 1, 2, 3, 4], SOME_TABLE)
        got = ask(*plain.calls(), through(HIGHEST, EIGHT_NOTES))[-1]
        way = [(tuple(got[at + 1:at + 3]), tuple(got[at + 3:at + 7])) for at in range(3, len(got), 7)]
        cost = sum(plain.between(one, other) for one, other in zip(way, way[1:]))
        for chord, (key, name) in zip(EIGHT_NOTES, way):
            self.assertIn(name, plain.names(HIGHEST, chord))
            cost += name[3] + 2 * len(set(chord) - set(plain.scale(key)))
        self.assertEqual(got[0], cost)

    def test_when_nothing_costs_all_ways_are_as_cheap(self):
        got = ask(kinds(TEN_KINDS), modes(THREE_MODES), through(0, EIGHT_NOTES))[-1]
        self.assertEqual(got[:3], [0, 1, (15 * 3 * 8 * 10) ** 12])
        for place, chord in enumerate(EIGHT_NOTES):
            self.assertEqual(got[3 + 7 * place:8 + 7 * place], [6, -7, 0, min(chord), 0])

    def test_the_highest_costs(self):
        told_costs = costs(*[10000] * 6, [10000] * 64)
        got = ask(kinds([[0]]), modes([MAJOR_MODE]), told_costs, through(HIGHEST, [[20]] * 12))[-1]
        self.assertEqual(got[:3], [12 * 10000 + 11 * 10000, 1, 15])

    def test_30_calls_of_other_sorts(self):
        got = ask(kinds(TEN_KINDS), modes(THREE_MODES), *[names(HIGHEST, EIGHT_NOTES[0])] * 10,
                  *[common([[0]] * 12)] * 9, *[degree(0, 0, [0] * 70)] * 9)
        self.assertEqual([len(answer) for answer in got[2:]], [401] * 10 + [1 + 3 * 21] * 9 + [72] * 9)

    def test_the_most_that_is_refused(self):
        big = [[2147483647] * 70] * 70
        got = split(answers(told(kinds(big), modes(big), common(big), through(HIGHEST, big))))
        self.assertEqual(got, [[-1]] * 4)


if __name__ == "__main__":
    unittest.main()
