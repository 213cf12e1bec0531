"""What the document tells of tables, things and lots, taken word by word and without any haste."""

import itertools

from cleanedtables.forms import read_as
from cleanedtables.lines import cell_worth, lines_of
from cleanedtables.programs import columns_of


def rank(worth):
    return (0, 0) if worth is None else (1, worth)


def must_be_ahead(table):
    """For each STEP all those behind which it must be."""
    _, _, steps, behinds = table
    ahead = {step[0]: set() for step in steps}
    for _ in steps:
        for one, other in behinds:
            ahead[other] |= {one} | ahead[one]
    return ahead


class Tables:
    """All tables of a program by texts: rows, what each is made of, worths, marks, leans, what is lost."""

    def __init__(self, program, texts, numbers=None):
        self.program = program
        # lines[source][number], by the rows' own numbers where these are told.
        self.lines = {}
        for name, shape in program[0]:
            lines = lines_of(shape, dict(texts)[name])
            own = range(len(lines)) if numbers is None else numbers[name]
            self.lines[name] = dict(zip(own, lines, strict=True))
        self.rows = {}
        self.parts = {}
        self.lost = {}
        # states[name][k][row]: (worths by columns, marks) behind the first k steps.
        self.states = {}
        self.leans = {}
        for table in program[1]:
            self.make(table)

    def stood(self, name):
        """(row, worths) of the rows that stand behind all steps."""
        state = self.states[name][-1]
        return [(row, state[row][0]) for row in self.rows[name] if not state[row][1]]

    def make(self, table):
        name, origin, steps, _ = table
        self.lost[name] = []
        made = getattr(self, origin[0] + "_made")(name, *origin[1:])
        names = self.columns(table, 0)
        self.rows[name] = [row for row, _, _ in made]
        self.parts[name] = {row: parts for row, parts, _ in made}
        self.states[name] = [{row: (dict(zip(names, worths)), ()) for row, _, worths in made}]
        self.leans[name] = {row: [] for row in self.rows[name]}
        for step in steps:
            state = self.states[name][-1]
            self.states[name].append({row: self.behind(table, step, row, state) for row in self.rows[name]})

    def columns(self, table, many):
        """The columns behind the first steps."""
        cut = (table[0], table[1], table[2][:many], ())
        tables = self.program[1][:self.program[1].index(table)]
        return [column for column, _ in columns_of((self.program[0], (*tables, cut)), table[0])]

    def of_made(self, name, source):
        made = []
        for number, (_, _, cells, reason) in self.lines[source].items():
            if reason:
                self.lost[name].append((source, (source, number), reason))
            else:
                made.append(((source, number), [], [cell_worth(cell) for _, _, cell in cells]))
        return made

    def join_made(self, name, one, other, pairs):
        made = []
        for (row, left), (row_too, right) in itertools.product(self.stood(one), self.stood(other)):
            if all(left[a] is not None and left[a] == right[b] for a, b in pairs):
                rest = [worth for column, worth in right.items() if column not in [b for _, b in pairs]]
                made.append(((row, row_too), [(one, row), (other, row_too)], [*left.values(), *rest]))
        for table, place in [(one, 0), (other, 1)]:
            for row, _ in self.stood(table):
                if all(called[place] != row for called, _, _ in made):
                    self.lost[name].append((table, row, "lone"))
        return made

    def group_made(self, name, one, keys, sums):
        made = []
        called = {tuple(worths[key] for key in keys) for _, worths in self.stood(one)}
        for row in sorted(called, key=lambda worths: [rank(worth) for worth in worths]):
            parts = [(part, worths) for part, worths in self.stood(one)
                     if tuple(worths[key] for key in keys) == row]
            told = [self.summed(word, [worths.get(column) for _, worths in parts]) for _, word, column in sums]
            made.append((row, [(one, part) for part, _ in parts], [*row, *told]))
        return made

    def summed(self, word, worths):
        if word == "count":
            return len(worths)
        if word == "total":
            return sum(worth or 0 for worth in worths)
        given = [worth for worth in worths if worth is not None]
        picked = {"least": sorted(given)[:1], "most": sorted(given)[-1:], "first": given[:1]}[word]
        return picked[0] if picked else None

    def wide_made(self, name, one, keys, names, worths, told):
        texts = [text for text, _ in told]
        such = [(row, state) for row, state in self.stood(one) if state[names] in texts]
        made = []
        called = {tuple(state[key] for key in keys) for _, state in such}
        for keyed in sorted(called, key=lambda worths: [rank(worth) for worth in worths]):
            parts, cells = [], []
            for text in texts:
                found = [(row, state) for row, state in such
                         if state[names] == text and tuple(state[key] for key in keys) == keyed]
                parts += [(one, row) for row, _ in found[:1]]
                cells.append(found[0][1][worths] if found else None)
            made.append((keyed, parts, [*keyed, *cells]))
        firsts = [row for _, parts, _ in made for _, row in parts]
        for row, state in self.stood(one):
            if state[names] not in texts:
                self.lost[name].append((one, row, "strange"))
            elif row not in firsts:
                self.lost[name].append((one, row, "twice"))
        return made

    def long_made(self, name, one, told, _, __):
        made = []
        for row, state in self.stood(one):
            for column in told:
                rest = [worth for other, worth in state.items() if other not in told]
                made.append(((row, column), [(one, row)], [*rest, column, state[column]]))
        return made

    def behind(self, table, step, row, state):
        """(worths, marks) of a row behind a step, by the states of all rows ahead of it."""
        worths, marks = state[row]
        written, marked = self.effect(table, step, row, state)
        return ({**worths, **written}, tuple(sorted(marks + (step[0],))) if marked else marks)

    def stands_so(self, table, step, row, state):
        """Whether a row stands by the marks of those steps alone that must be ahead of a step."""
        return not set(state[row][1]) & must_be_ahead(table)[step[0]]

    def effect(self, table, step, row, state):
        name, word, worths = step[0], step[1], state[row][0]
        if word == "unlike":
            return {}, self.unlike(table, step, row, state)
        if word == "fill":
            return {step[2]: self.fill(table, step, row, state)}, False
        if word == "look":
            return self.look(table[0], step, row, worths)
        if word == "glue":
            texts = [worths[column] for column in step[2] if worths[column] is not None]
            return {step[4]: step[3].join(texts) or None}, False
        worth = worths[step[2]]
        if word == "cut":
            parts = [] if worth is None else worth.split(step[3])
            if len(parts) != len(step[4]):
                return dict.fromkeys(step[4]), worth is not None
            return {new: part.strip() or None for new, part in zip(step[4], parts)}, False
        if word == "spell":
            return {step[2]: dict(step[3]).get(worth, worth)}, False
        if word == "read":
            number = None if worth is None else read_as(step[3], worth)
            return {step[4]: number}, worth is not None and number is None
        if word == "put":
            return {step[2]: step[3] if worth is None else worth}, False
        if word == "given":
            return {}, worth is None
        if word == "within":
            return {}, worth is not None and not (step[3] <= worth and worth <= step[4])
        if word == "among":
            return {}, worth is not None and worth not in step[3]
        other = worths[step[3]]
        return {}, worth is not None and other is not None and worth >= other

    def above(self, name, row):
        return reversed(self.rows[name][:self.rows[name].index(row)])

    def unlike(self, table, step, row, state):
        like = [state[row][0][column] for column in step[2]]
        if None in like or not self.stands_so(table, step, row, state):
            return False
        for other in self.above(table[0], row):
            if self.stands_so(table, step, other, state):
                if [state[other][0][column] for column in step[2]] == like:
                    self.leans[table[0]][row].append((table[0], other))
                    return True
        return False

    def fill(self, table, step, row, state):
        _, _, column, keys = step
        if state[row][0][column] is not None:
            return state[row][0][column]
        for other in self.above(table[0], row):
            worths = state[other][0]
            if self.stands_so(table, step, other, state) and worths[column] is not None:
                if all(worths[key] == state[row][0][key] for key in keys):
                    self.leans[table[0]][row].append((table[0], other))
                    return worths[column]
        return None

    def look(self, name, step, row, worths):
        _, _, column, table, key, wanted, new = step
        if worths[column] is None:
            return {new: None}, False
        found = [(other, told) for other, told in self.stood(table) if told[key] == worths[column]]
        self.leans[name][row] += [(table, other) for other, _ in found[:2]]
        if len(found) == 1:
            return {new: found[0][1][wanted]}, False
        return {new: None}, True

    def told(self):
        """As run tells it."""
        tables = []
        for name, _, _, _ in self.program[1]:
            state = self.states[name][-1]
            rows = tuple((row, tuple(state[row][0].values()), state[row][1]) for row in self.rows[name])
            tables.append((name, rows, tuple(self.lost[name])))
        return tuple(tables)
