"""Kinds, modes and costs are told; names of chords, and the cheapest way through keys, are answered.

A name is kept as (cost, root, kind, turn): sorted as they are, names stand in their order.
A key is kept as (tonic, mode): sorted as they are, keys stand in their order.
A pair (cost, ways) says what something costs at the least, and how many ways cost just that.
"""

LOWEST_NOTE = -20
HIGHEST_NOTE = 20
LOWEST_TONIC = -7
HIGHEST_TONIC = 7
MOST_CHORD_NOTES = 8
MOST_KIND_NOTES = 6
MODE_NOTES = 7
MOST_KINDS = 10
MOST_MODES = 3
MOST_CHORDS = 12
HIGHEST_COST = 10000
SINGLE_COSTS = 6
TABLE_SIDE = 8
TABLE_SIZE = 64

REFUSED = -1
NO_SUCH_MODE = -2
NO_WAY = -6

BEGINS = 0
KINDS = 1
MODES = 2
COSTS = 3
NAMES = 4
DEGREE = 5
COMMON = 6


class Costs:
    """What things cost: six numbers, and the table, its rows one behind another."""

    def __init__(self, singles, table):
        self.miss = singles[0]
        self.extra = singles[1]
        self.turned = singles[2]
        self.out = singles[3]
        self.key = singles[4]
        self.mode = singles[5]
        self.table = table


class Line:
    """What the calls of a line have told so far."""

    def __init__(self):
        self.begin()

    def begin(self):
        self.kinds = []
        self.modes = []
        self.costs = Costs([0] * SINGLE_COSTS, [0] * TABLE_SIZE)


class Reader:
    """Goes through a list of whole numbers once, and leaves it as it is."""

    def __init__(self, numbers):
        self.numbers = numbers
        self.place = 0

    def has_more(self):
        return self.place < len(self.numbers)

    def number(self):
        found = self.numbers[self.place]
        self.place += 1
        return found

    def several(self, how_many):
        start = self.place
        self.place += how_many
        return self.numbers[start:self.place]

    def row(self):
        return self.several(self.number())

    def rows(self):
        return [self.row() for which in range(self.number())]


class Step:
    """A chord of a row, and for each root the names that a cheapest way may take."""

    def __init__(self, chord, names):
        self.chord = chord
        self.best = best_by_root(names)


def are_notes(numbers):
    return all([LOWEST_NOTE <= number <= HIGHEST_NOTE for number in numbers])


def are_different_notes(numbers):
    return are_notes(numbers) and len(set(numbers)) == len(numbers)


def begins_at_root(numbers):
    return len(numbers) > 0 and numbers[0] == 0 and are_different_notes(numbers)


def is_chord(numbers):
    return 1 <= len(numbers) <= MOST_CHORD_NOTES and are_different_notes(numbers)


def are_chords(rows):
    return len(rows) <= MOST_CHORDS and all([is_chord(row) for row in rows])


def is_kind(numbers):
    return len(numbers) <= MOST_KIND_NOTES and begins_at_root(numbers)


def is_mode(numbers):
    return len(numbers) == MODE_NOTES and begins_at_root(numbers)


def place_in(numbers, number):
    """Where number stands; if it doesn't, how many there are."""
    if number in numbers:
        return numbers.index(number)
    return len(numbers)


def name_of(line, chord, root, kind):
    notes = line.kinds[kind]
    missed = [note for note in notes if root + note not in chord]
    extras = [note for note in chord if note - root not in notes]
    cost = len(missed) * line.costs.miss + len(extras) * line.costs.extra
    if chord[0] != root:
        cost += line.costs.turned
    return (cost, root, kind, place_in(notes, chord[0] - root))


def names_of(line, most, chord):
    """The chord's names that cost no more than most, in their order."""
    names = []
    for root in chord:
        for kind in range(len(line.kinds)):
            name = name_of(line, chord, root, kind)
            if name[0] <= most:
                names.append(name)
    return sorted(names)


def shown_name(name):
    return [name[1], name[2], name[3], name[0]]


def best_by_root(names):
    """For each root its first name, and how many names on it cost as little; in the order of these names.

    What a way costs beside its names hangs on their roots alone, so a costlier name on the same root
    is in no cheapest way.
    """
    best = {}
    for name in names:
        root = name[1]
        if root not in best:
            best[root] = (name, 1)
        elif name[0] == best[root][0][0]:
            best[root] = (best[root][0], best[root][1] + 1)
    return best


def keys_of(line):
    """All keys, in their order."""
    found = []
    for tonic in range(LOWEST_TONIC, HIGHEST_TONIC + 1):
        for mode in range(len(line.modes)):
            found.append((tonic, mode))
    return found


def degree_in(line, key, note):
    return place_in(line.modes[key[1]], note - key[0])


def notes_outside(line, key, chord):
    return len([note for note in chord if degree_in(line, key, note) == MODE_NOTES])


def key_change_cost(line, before, after):
    cost = line.costs.key * abs(before[0] - after[0])
    if before[1] != after[1]:
        cost += line.costs.mode
    return cost


def root_change_cost(line, key, before, after):
    """What the table tells of two roots, both in the second one's key."""
    return line.costs.table[TABLE_SIDE * degree_in(line, key, before) + degree_in(line, key, after)]


def cheapest(pairs):
    """Of several pairs (cost, ways) the least cost, with all the ways that cost so much."""
    least = min([pair[0] for pair in pairs])
    return (least, sum([pair[1] for pair in pairs if pair[0] == least]))


def step_and_behind(line, step, behind):
    """By key and root: what a step and all behind it cost; behind tells what is behind it, None at the last."""
    found = {}
    for key in keys_of(line):
        out = line.costs.out * notes_outside(line, key, step.chord)
        by_root = {}
        for root, best in step.best.items():
            rest = (0, 1) if behind is None else behind[key][root]
            by_root[root] = (out + best[0][0] + rest[0], best[1] * rest[1])
        found[key] = by_root
    return found


def into_key(line, root, key, by_root):
    """From a step with this root into one in this key and on, what the change of key costs left aside."""
    return cheapest([(root_change_cost(line, key, root, after) + pair[0], pair[1]) for after, pair in by_root.items()])


def behind_step(line, step, onward):
    """By key and root of a step: what all behind it costs; onward tells it of the next step.

    First each root is paired with each next key, then each key with each next key: far fewer pairs than
    all steps with all next ones.
    """
    all_keys = keys_of(line)
    into = {}
    for root in step.best:
        into[root] = [into_key(line, root, key, onward[key]) for key in all_keys]
    found = {}
    for key in all_keys:
        changes = [key_change_cost(line, key, after) for after in all_keys]
        by_root = {}
        for root in step.best:
            by_root[root] = cheapest([(change + pair[0], pair[1]) for change, pair in zip(changes, into[root])])
        found[key] = by_root
    return found


def onward_costs(line, steps):
    """For each step, by key and root: what the cheapest ways from it to the end cost, and how many they are."""
    found = []
    behind = None
    for step in reversed(steps):
        if found:
            behind = behind_step(line, step, found[-1])
        found.append(step_and_behind(line, step, behind))
    return list(reversed(found))


def entry_cost(line, before, key, root):
    """What it costs to come from the step before, (key, root), into this one; nothing, if there's none."""
    if before is None:
        return 0
    return key_change_cost(line, before[0], key) + root_change_cost(line, key, before[1], root)


def first_step(line, before, step, onward):
    """(cost, key, name): the first key and name among those that go on in the cheapest way from the step before."""
    choices = []
    for key in keys_of(line):
        for root, best in step.best.items():
            choices.append((entry_cost(line, before, key, root) + onward[key][root][0], key, best[0]))
    return min(choices)


def first_way(line, steps, onward):
    """The steps, each [tonic, mode, root, kind, turn, cost], of the first of the cheapest ways."""
    way = []
    before = None
    for step, costs in zip(steps, onward):
        chosen = first_step(line, before, step, costs)
        key = chosen[1]
        name = chosen[2]
        way.append(list(key) + shown_name(name))
        before = (key, name[1])
    return way


def cheapest_ways(onward):
    pairs = []
    for by_root in onward.values():
        pairs.extend(list(by_root.values()))
    return cheapest(pairs)


def with_count(numbers):
    return [len(numbers)] + numbers


def call_kinds(line, rows):
    if len(rows) > MOST_KINDS or not all([is_kind(row) for row in rows]):
        return [REFUSED]
    line.kinds = rows
    return [len(rows)]


def call_modes(line, rows):
    if len(rows) > MOST_MODES or not all([is_mode(row) for row in rows]):
        return [REFUSED]
    line.modes = rows
    return [len(rows)]


def call_costs(line, singles, table):
    if max(singles + table) > HIGHEST_COST or len(table) != TABLE_SIZE:
        return [REFUSED]
    line.costs = Costs(singles, table)
    return [0]


def call_names(line, most, chord):
    if not is_chord(chord):
        return [REFUSED]
    names = names_of(line, most, chord)
    answer = [len(names)]
    for name in names:
        answer.extend(with_count(shown_name(name)))
    return answer


def call_degree(line, tonic, mode, notes):
    if mode >= len(line.modes):
        return [NO_SUCH_MODE]
    if not LOWEST_TONIC <= tonic <= HIGHEST_TONIC or not are_notes(notes):
        return [REFUSED]
    degrees = [degree_in(line, (tonic, mode), note) for note in notes]
    return [len(notes)] + with_count(degrees)


def call_common(line, chords):
    if not are_chords(chords):
        return [REFUSED]
    found = []
    for key in keys_of(line):
        if all([notes_outside(line, key, chord) == 0 for chord in chords]):
            found.append(key)
    answer = [len(found)]
    for key in found:
        answer.extend(with_count(list(key)))
    return answer


def call_through(line, most, chords):
    if not are_chords(chords):
        return [REFUSED]
    if not chords:
        return [0] + with_count([1])
    names = [names_of(line, most, chord) for chord in chords]
    if not line.modes or not all(names):
        return [NO_WAY]
    steps = [Step(chord, its_names) for chord, its_names in zip(chords, names)]
    onward = onward_costs(line, steps)
    least = cheapest_ways(onward[0])
    answer = [least[0]] + with_count([least[1]])
    for shown_step in first_way(line, steps, onward):
        answer.extend(with_count(shown_step))
    return answer


def answer_of(line, reader):
    """What is answered to one call; its words are read in the order in which they are told."""
    which = reader.number()
    if which == BEGINS:
        line.begin()
        return [0]
    if which == KINDS:
        return call_kinds(line, reader.rows())
    if which == MODES:
        return call_modes(line, reader.rows())
    if which == COSTS:
        return call_costs(line, reader.several(SINGLE_COSTS), reader.row())
    if which == NAMES:
        return call_names(line, reader.number(), reader.row())
    if which == DEGREE:
        return call_degree(line, reader.number(), reader.number(), reader.row())
    if which == COMMON:
        return call_common(line, reader.rows())
    return call_through(line, reader.number(), reader.rows())


def answers(calls):
    """What is answered to each call, in order: how many numbers, then these."""
    line = Line()
    reader = Reader(calls)
    given = []
    while reader.has_more():
        # Every call stands under the number 0, so nothing is to be learnt from it.
        reader.number()
        given.extend(with_count(answer_of(line, Reader(reader.row()))))
    return given
