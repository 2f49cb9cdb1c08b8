"""What the tests share: calls told in words, made-up tables, a plain reckoning."""

import itertools
import re

from bestkept.answersets import answers

WORKED = ("columns city, kind ; row 0, 0 : 5 ; row 0, 1 : 2 ; row 1, 0 : 4 ; row 1, 0 : -1 ; "
          "row 0, 0 : 1 ; ask city times 3 ; ask kind ; ask city, kind times 2 ; ask ;")
SHOWN = [1]
BEST = [3]
STEPS = [4]
CURVE = [8]
FAR = 10 ** 18


def as_bytes(text):
    return list(text.encode("latin-1")) if isinstance(text, str) else list(text)


def load(text):
    told = as_bytes(text)
    return [0, len(told)] + told


def terms(room, changes):
    return [2, room, changes]


def few(count):
    return [5, count]


def price(groupings):
    return [6, len(groupings)] + groupings


def why(grouping):
    return [7, grouping]


def run_many(begin, calls):
    """What each call answers behind the beginning, in lists of at most 20 calls."""
    found = []
    most = 20 - len(begin)
    for place in range(0, len(calls), most):
        found += run(*begin, *calls[place:place + most])[len(begin):]
    return found


def cut(answered):
    """The flat list that's answered, as one list for each call."""
    found = []
    place = 0
    while place < len(answered):
        count = answered[place]
        found.append(answered[place + 1:place + 1 + count])
        assert len(found[-1]) == count
        place += 1 + count
    return found


def run(*calls):
    """What each call answers, on one new object."""
    flat = [number for call in calls for number in call]
    found = cut(answers(flat))
    assert len(found) == len(calls)
    return found


class Chance:
    """Numbers that look like chance, the same ones every time."""

    def __init__(self, seed):
        self.state = seed * 2654435761 + 12345

    def below(self, bound):
        self.state = (self.state * 6364136223846793005 + 1442695040888963407) % 2 ** 64
        return (self.state >> 33) % bound

    def between(self, least, greatest):
        return least + self.below(greatest - least + 1)

    def one_of(self, choices):
        return choices[self.below(len(choices))]


class MadeUp:
    """A table: names, rows as (values, amount), questions as (columns' places, times)."""

    def __init__(self, names, rows, questions):
        self.names = names
        self.rows = rows
        self.questions = questions

    def tokens(self):
        told = ["columns"] + parted(self.names) + [";"]
        for values, amount in self.rows:
            told += ["row"] + parted([str(value) for value in values]) + [":"]
            told += ["-"] * (amount < 0) + [str(abs(amount)), ";"]
        for places, times in self.questions:
            told += ["ask"] + parted([self.names[place] for place in places])
            told += ["times", str(times), ";"]
        return told

    def text(self):
        return " ".join(self.tokens())

    def form(self):
        """The one form, told once more."""
        told = "columns " + ", ".join(self.names) + " ;\n"
        for values, amount in self.rows:
            told += "row " + ", ".join(map(str, values)) + " : " + str(amount) + " ;\n"
        for places, times in self.questions:
            names = ", ".join(self.names[place] for place in sorted(places))
            told += "ask" + (" " + names if names else "")
            told += (" times " + str(times) if times != 1 else "") + " ;\n"
        return told


def parted(words):
    """The words with a comma between any two of them."""
    return [part for word in words for part in (",", word)][1:]


def made_up(chance, columns, most_rows=16, most_questions=8):
    """A table with so many columns, and rows that are often alike."""
    greatest = chance.one_of([1, 1, 2, 3, 9])
    rows = [([chance.between(0, greatest) for _ in range(columns)], chance.between(-1000, 1000))
            for _ in range(chance.between(0, most_rows))]
    questions = []
    for _ in range(chance.between(0, most_questions)):
        places = [place for place in range(columns) if chance.below(2)]
        if chance.below(2):
            places.reverse()
        questions.append((places, chance.one_of([1, 1, 2, 3, chance.between(1, 99)])))
    return MadeUp(["city", "kind", "Year", "x9"][:columns], rows, questions)


class Plain:
    """The document's words about groupings and sets, followed one by one."""

    def __init__(self, table):
        self.rows = len(table.rows)
        self.columns = [frozenset(place for place in range(len(table.names)) if number >> place & 1)
                        for number in range(2 ** len(table.names))]
        self.sizes = [len(self.answer(table, columns)) for columns in self.columns]
        self.asked = [(frozenset(places), times) for places, times in table.questions]
        self.useful = [{number: self.sizes[number] for number, columns in enumerate(self.columns)
                        if columns >= places} for places, _ in self.asked]

    def answer(self, table, columns):
        lines = {}
        for values, amount in table.rows:
            line = lines.setdefault(tuple(values[place] for place in sorted(columns)), [0, 0])
            line[0] += amount
            line[1] += 1
        return lines

    def reading(self, kept):
        together = 0
        for (_, times), useful in zip(self.asked, self.useful):
            together += times * min([useful[one] for one in kept if one in useful] or [self.rows])
        return together

    def cost(self, kept, changes):
        return self.reading(kept) + 2 * changes * len(kept)

    def lines(self, kept):
        return sum(self.sizes[one] for one in kept)

    def number(self, kept):
        return sum(2 ** one for one in kept)

    def every_set(self):
        """Of each set: what reading costs, its lines, its number, and it."""
        found = []
        for count in range(len(self.sizes) + 1):
            for kept in itertools.combinations(range(len(self.sizes)), count):
                found.append((self.reading(kept), self.lines(kept), self.number(kept), kept))
        return found

    def best(self, room, changes, sets):
        """What best () answers, out of every_set()."""
        cost, lines, _, kept = min((reading + 2 * changes * len(kept), lines, number, kept)
                                   for reading, lines, number, kept in sets if lines <= room)
        return [cost, lines, len(kept)] + list(kept)

    def steps(self, room, changes, most=16):
        """What steps () answers, with so many steps at most."""
        kept = []
        while True:
            tries = [(self.cost(kept + [one], changes), one) for one in range(len(self.sizes))
                     if one not in kept and self.lines(kept + [one]) <= room]
            if len(kept) == most or not tries or min(tries)[0] >= self.cost(kept, changes):
                return [self.cost(kept, changes), self.lines(kept), len(kept)] + kept
            kept.append(min(tries)[1])

    def few(self, most, sets):
        """What few (most) answers, out of every_set()."""
        reading, _, _, kept = min(one for one in sets if len(one[3]) <= most)
        steps = self.steps(10 ** 9, 0, most)
        return [reading, len(kept)] + list(kept) + steps[:1] + steps[2:]

    def price(self, told, room, changes):
        """What price (told) answers."""
        kept = {one for one in told if 0 <= one < len(self.sizes)}
        if kept != set(told):
            return [-2]
        together = [self.reading(kept), 2 * changes * len(kept)]
        return [sum(together), self.lines(kept)] + together + [int(self.lines(kept) <= room)]

    def reads(self, useful, kept):
        """Which of the kept ones a question reads, or None."""
        if not any(one in useful for one in kept):
            return None
        least = min(useful[one] for one in kept if one in useful)
        return min(one for one in kept if useful.get(one) == least)

    def why(self, told, room, changes, best):
        """What why (told) answers, if best () answers this."""
        if not 0 <= told < len(self.sizes):
            return [-2]
        cost, _, _, *kept = best
        if told in kept:
            without = self.cost([one for one in kept if one != told], changes)
            read = [number for number, useful in enumerate(self.useful) if self.reads(useful, kept) == told]
            return [1, without - cost, len(read)] + read
        return [0, self.cost(kept + [told], changes) - cost, int(self.lines(kept + [told]) <= room)]

    def curve(self, changes, sets):
        """What curve () answers, out of every_set()."""
        priced = [(lines, reading + 2 * changes * len(kept)) for reading, lines, _, kept in sets]
        costs = [min(cost for lines, cost in priced if lines <= room) for room in range(sum(self.sizes) + 1)]
        told = [[room, cost] for room, cost in enumerate(costs) if all(cost < less for less in costs[:room])]
        return [len(told)] + sum(told, [])


PIECES = re.compile(rb"(?P<blank>[ \t\n]+|#[^\n]*)|(?P<name>[A-Za-z][A-Za-z0-9]*)"
                    rb"|(?P<number>[0-9]+)|(?P<sign>[,:;-])")
# What may come at each point of a table, and which point comes behind it.
POINTS = {
    "start": {"columns": "column"},
    "column": {"name": "column told"},
    "column told": {",": "column", ";": "between"},
    "between": {"row": "value", "ask": "asked", "end": "end"},
    "value": {"number": "value told"},
    "value told": {",": "value", ":": "amount"},
    "amount": {"-": "amount less", "number": "row told"},
    "amount less": {"number": "row told"},
    "row told": {";": "between"},
    "asked": {"name": "name asked", "times": "times", ";": "between"},
    "name asked": {",": "more asked", "times": "times", ";": "between"},
    "more asked": {"name": "name asked"},
    "times": {"number": "times told"},
    "times told": {";": "between"},
}


def plain_pieces(text):
    """The tokens as (kind, word, place), or the place of fault 2."""
    found = []
    place = 0
    while place < len(text):
        match = PIECES.match(text, place)
        if match is None:
            return place
        word = match.group().decode("latin-1")
        kind = match.lastgroup
        if kind == "name" and len(word) > 16:
            return place
        if kind == "number" and (int(word) > 10 ** 9 or str(int(word)) != word):
            return place
        if kind == "sign" or word in ("columns", "row", "ask", "times"):
            kind = word
        if kind != "blank":
            found.append((kind, word, place))
        place = match.end()
    return found + [("end", "", len(text))]


def plain_load(told):
    """What load answers, and the table that it then holds, reckoned once more."""
    if len(told) > 4096:
        return [0, 1, 4096], None
    pieces = plain_pieces(bytes(told))
    if isinstance(pieces, int):
        return [0, 2, pieces], None
    table = MadeUp([], [], [])
    point = "start"
    for kind, word, place in pieces:
        code = 0 if kind in POINTS[point] else 3
        if point == "value told" and kind in ",:":
            code = 0 if (len(table.rows[-1][0]) < len(table.names)) == (kind == ",") else 3
        code = code or plain_fault(table, point, kind, word)
        if code:
            return [0, code, place], None
        plain_put(table, point, kind, word)
        point = POINTS[point][kind]
    return [1, len(table.names), len(table.rows), len(table.questions)], table


def plain_fault(table, point, kind, word):
    """The fault from 4 on of a token that's allowed at this point, or 0."""
    asked = table.questions[-1][0] if table.questions else []
    faults = {
        4: (point == "column" and len(table.names) == 4
            or kind == "row" and len(table.rows) == 16
            or kind == "ask" and len(table.questions) == 8),
        5: point == "column" and word in table.names,
        6: point == "more asked" and word in [table.names[place] for place in asked],
        7: (point == "value" and int(word) > 9
            or kind == "number" and point.startswith("amount") and int(word) > 1000
            or point == "times" and not 1 <= int(word) <= 99),
        8: point in ("asked", "more asked") and kind == "name" and word not in table.names,
    }
    return min([code for code in faults if faults[code]], default=0)


def plain_put(table, point, kind, word):
    """Puts what a right token tells into the table."""
    if point == "column":
        table.names.append(word)
    elif kind == "row":
        table.rows.append(([], 0))
    elif kind == "ask":
        table.questions.append(([], 1))
    elif point == "value":
        table.rows[-1][0].append(int(word))
    elif kind == "number" and point.startswith("amount"):
        table.rows[-1] = (table.rows[-1][0], int(word) * (-1 if point == "amount less" else 1))
    elif kind == "name":
        table.questions[-1][0].append(table.names.index(word))
    elif point == "times":
        table.questions[-1] = (table.questions[-1][0], int(word))
