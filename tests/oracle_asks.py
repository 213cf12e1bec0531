"""What things ask for, their answers, their traces, and lots: by the tables of the oracle."""

from tests.oracle import Tables


class Things:
    """All things of a program and texts."""

    def __init__(self, program, texts, numbers=None):
        self.program = program
        self.tables = Tables(program, texts, numbers)
        self.table = {table[0]: table for table in program[1]}

    def all_of(self, name):
        return len(self.table[name][2])

    def whole(self, name, row):
        return ("row", name, self.all_of(name), row)

    def made_of(self, name):
        origin = self.table[name][1]
        return {"of": (), "join": origin[1:3]}.get(origin[0], origin[1:2])

    def every(self):
        """All things there are, keyed ones of a few worths."""
        things = []
        for source, lines in self.tables.lines.items():
            things.append(("source", source))
            things += [("line", source, number) for number in lines]
        for name, origin, steps, _ in self.program[1]:
            things.append(("rows", name))
            for row in self.tables.rows[name]:
                things += [("row", name, k, row) for k in range(len(steps) + 1)]
                things.append(("above", name, row))
                if origin[0] in ("group", "wide"):
                    things.append(("parts", name, row))
            for column in self.tables.columns(self.table[name], len(steps)):
                told = [state[0][column] for state in self.tables.states[name][-1].values()]
                things += [("keyed", name, column, worth) for worth in {"zz", 7, None, *told[:3]}]
        return things

    def answer(self, thing):
        word, name = thing[:2]
        if word in ("source", "line"):
            return self.answer_of_source(thing)
        rows = self.tables.rows[name]
        if word == "rows":
            return tuple(rows)
        if word == "row":
            worths, marks = self.tables.states[name][thing[2]][thing[3]]
            return (tuple(worths.values()), marks)
        if word == "above":
            place = rows.index(thing[2])
            return rows[place - 1] if place else None
        if word == "keyed":
            return tuple(row for row, worths in self.tables.stood(name) if worths[thing[2]] == thing[3])
        return self.parts(name, thing[2])

    def answer_of_source(self, thing):
        lines = self.tables.lines[thing[1]]
        if thing[0] == "source":
            return tuple(number for number, line in lines.items() if not line[3])
        if lines[thing[2]][3]:
            return None
        return tuple(cell.strip() or None for _, _, cell in lines[thing[2]][2])

    def parts(self, name, row):
        origin = self.table[name][1]
        parts = [part for _, part in self.tables.parts[name][row]]
        if origin[0] == "group":
            return tuple(parts)
        texts = dict(self.tables.stood(origin[1]))
        columns = dict(origin[5])
        return tuple((columns[texts[part][origin[3]]], part) for part in parts)

    def asks(self, thing):
        """All that a thing asks for, in order."""
        word, name = thing[:2]
        if word in ("source", "line"):
            return []
        if word == "row":
            return self.asks_of_row(*thing[1:])
        if word == "above":
            return [("rows", name)]
        if word == "keyed":
            return [("rows", name)] + [self.whole(name, row) for row in self.tables.rows[name]]
        origin = self.table[name][1]
        if origin[0] == "of":
            return [("source", origin[1])]
        tables = self.made_of(name)
        rows = [self.whole(one, row) for one in tables for row in self.tables.rows[one]]
        return [("rows", one) for one in tables] + rows

    def asks_of_row(self, name, k, row):
        origin = self.table[name][1]
        if k == 0:
            if origin[0] == "of":
                return [("line", *row)]
            asked = [("parts", name, row)] if origin[0] in ("group", "wide") else []
            return asked + [self.whole(one, part) for one, part in self.tables.parts[name][row]]
        step = self.table[name][2][k - 1]
        state = self.tables.states[name][k - 1]
        asked = [("row", name, k - 1, row)]
        worths, marks = state[row]
        if step[1] == "unlike" and not marks and all(worths[column] is not None for column in step[2]):
            return asked + self.upwards(name, k, row, step[2], None)
        if step[1] == "fill" and worths[step[2]] is None:
            return asked + self.upwards(name, k, row, step[3], step[2])
        if step[1] == "look" and worths[step[2]] is not None:
            keyed = ("keyed", step[3], step[4], worths[step[2]])
            found = self.answer(keyed)
            return asked + [keyed] + [self.whole(step[3], row) for row in found if len(found) == 1]
        return asked

    def upwards(self, name, k, row, columns, wanted):
        """All rows above, up to the first that stands, is like this one and has what is wanted."""
        asked = []
        state = self.tables.states[name][k - 1]
        below = row
        for other in self.tables.above(name, row):
            asked += [("above", name, below), ("row", name, k - 1, other)]
            worths, marks = state[other]
            like = all(worths[column] == state[row][0][column] for column in columns)
            if like and not marks and (wanted is None or worths[wanted] is not None):
                return asked
            below = other
        return asked + [("above", name, below)]

    def trace(self, thing):
        """The trace of a thing, each thing once, behind all it asks for."""
        places, rows = {}, []

        def ask(asked):
            if asked not in places:
                numbers = [ask(other) for other in self.asks(asked)]
                places[asked] = len(rows)
                rows.append((asked, tuple(numbers), self.answer(asked)))
            return places[asked]

        ask(thing)
        return tuple(rows)

    def lot(self, name, row):
        """The least lot that has a row, by going round until nothing more comes."""
        lot = {(name, row)}
        while True:
            more = set().union(*(self.with_it(one, called) for one, called in lot))
            more |= {here for here in self.joined() if set(self.tables.parts[here[0]][here[1]]) <= lot}
            if more <= lot:
                break
            lot |= more
        return tuple((one, called) for one in self.table for called in self.tables.rows[one]
                     if (one, called) in lot)

    def joined(self):
        return [(name, row) for name in self.table if self.table[name][1][0] == "join"
                for row in self.tables.rows[name]]

    def with_it(self, name, row):
        """All that must be in a lot with a row, but rows of joins of it."""
        more = set(self.tables.leans[name][row]) | set(self.tables.parts[name][row])
        if self.table[name][1][0] == "of":
            more |= {(one, row) for one in self.table if self.table[one][1] == self.table[name][1]}
        stood = dict(self.tables.stood(name))
        for other, origin, _, _ in self.program[1]:
            if row not in stood or origin[0] in ("of", "join") or origin[1] != name:
                continue
            if origin[0] == "long":
                more |= {(other, (row, column)) for column in origin[2]}
            elif origin[0] == "group" or stood[row][origin[3]] in dict(origin[5]):
                more.add((other, tuple(stood[row][key] for key in origin[2])))
        return more
