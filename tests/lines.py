"""Helpers of the tests: telling calls, reading answers, and a plain search to hold the program against."""

from itertools import product

from chordnames.keys import answers

HIGHEST = 4294967295
NO_TABLE = [0] * 64

MAJOR = [0, 1, 4]
MINOR = [0, 1, -3]
SEVENTH = [0, 4, 1, -2]
MAJOR_MODE = [0, 2, 4, -1, 1, 3, 5]
MINOR_MODE = [0, 2, -3, -1, 1, -4, -2]


def rows(lists):
    told = [len(lists)]
    for one in lists:
        told += [len(one)] + list(one)
    return told


def begins():
    return [0]


def kinds(lists):
    return [1] + rows(lists)


def modes(lists):
    return [2] + rows(lists)


def costs(miss=0, extra=0, turned=0, out=0, key=0, mode=0, table=NO_TABLE):
    return [3, miss, extra, turned, out, key, mode, len(table)] + list(table)


def names(most, chord):
    return [4, most, len(chord)] + list(chord)


def degree(tonic, mode, notes):
    return [5, tonic, mode, len(notes)] + list(notes)


def common(chords):
    return [6] + rows(chords)


def through(most, chords):
    return [7, most] + rows(chords)


def told(*calls):
    """The calls, as the one list that is handed in."""
    line = []
    for call in calls:
        line += [0, len(call)] + call
    return line


def split(given):
    """What is given back, as one list for each call."""
    found = []
    place = 0
    while place < len(given):
        found.append(given[place + 1:place + 1 + given[place]])
        place += 1 + given[place]
    return found


def ask(*calls):
    return split(answers(told(*calls)))


def last(*calls):
    return ask(*calls)[-1]


class Numbers:
    """A fixed row of numbers that look like chance, the same on every Python."""

    def __init__(self, seed):
        self.state = seed

    def below(self, limit):
        self.state = (self.state * 6364136223846793005 + 1442695040888963407) % 2 ** 64
        return (self.state >> 33) % limit

    def notes(self, how_many, low, high, first=None):
        found = [] if first is None else [first]
        while len(found) < how_many:
            note = low + self.below(high - low + 1)
            if note not in found:
                found.append(note)
        return found


class Told:
    """Kinds, modes and costs, with plain answers straight from the document's words."""

    def __init__(self, kinds, modes, singles, table):
        self.kinds = kinds
        self.modes = modes
        self.singles = singles
        self.table = table

    def calls(self):
        return [kinds(self.kinds), modes(self.modes), costs(*self.singles, self.table)]

    def names(self, most, chord):
        """Each (root, kind, turn, cost), in order."""
        miss, extra, turned = self.singles[:3]
        found = []
        for root in chord:
            for number, kind in enumerate(self.kinds):
                there = [root + step for step in kind]
                cost = miss * len(set(there) - set(chord)) + extra * len(set(chord) - set(there))
                cost += turned * (root != chord[0])
                turn = there.index(chord[0]) if chord[0] in there else len(there)
                if cost <= most:
                    found.append((root, number, turn, cost))
        return sorted(found, key=lambda name: (name[3], name[0], name[1]))

    def keys(self):
        return [(tonic, mode) for tonic in range(-7, 8) for mode in range(len(self.modes))]

    def scale(self, key):
        return [key[0] + step for step in self.modes[key[1]]]

    def degree(self, key, note):
        scale = self.scale(key)
        return scale.index(note) if note in scale else 7

    def steps(self, most, chord):
        """All steps for a chord, in order, each with what it costs by itself."""
        out = self.singles[3]
        return [
            (key, name, name[3] + out * len(set(chord) - set(self.scale(key))))
            for key in self.keys()
            for name in self.names(most, chord)
        ]

    def between(self, one, other):
        (tonic, mode), name = one[:2]
        (next_tonic, next_mode), next_name = other[:2]
        cost = self.singles[4] * abs(tonic - next_tonic) + self.singles[5] * (mode != next_mode)
        row = self.degree(other[0], name[0])
        return cost + self.table[8 * row + self.degree(other[0], next_name[0])]

    def shown(self, cost, ways, way):
        answer = [cost, 1, ways]
        for key, name, alone in way:
            answer += [6, *key, *name]
        return answer

    def through(self, most, chords):
        """Goes through all ways one by one; product gives them in the document's order."""
        least, ways, first = None, 0, None
        for way in product(*[self.steps(most, chord) for chord in chords]):
            cost = sum(step[2] for step in way)
            cost += sum(self.between(one, other) for one, other in zip(way, way[1:]))
            if least is None or cost < least:
                least, ways, first = cost, 0, way
            ways += cost == least
        return [-6] if least is None else self.shown(least, ways, first)

    def through_by_steps(self, most, chords):
        """For longer rows: from the last step to the first, each step with each next one."""
        later = []
        for chord in reversed(chords):
            now = []
            for step in self.steps(most, chord):
                if not later:
                    now.append((step[2], 1, [step]))
                    continue
                onward = [(self.between(step, rest[2][0]) + rest[0], rest) for rest in later]
                least = min(cost for cost, rest in onward)
                cheap = [rest for cost, rest in onward if cost == least]
                now.append((step[2] + least, sum(rest[1] for rest in cheap), [step] + cheap[0][2]))
            later = now
        least = min(rest[0] for rest in later)
        cheap = [rest for rest in later if rest[0] == least]
        return self.shown(least, sum(rest[1] for rest in cheap), cheap[0][2])
