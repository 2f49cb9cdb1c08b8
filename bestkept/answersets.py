"""The calls on one object, and what they answer."""

from bestkept.choices import AllSets, Groupings, best_set, cost_of, lines_of, step_by_step
from bestkept.faults import Fault
from bestkept.tables import one_form, read_table

LOAD = 0
SHOWN = 1
TERMS = 2
BEST = 3
STEPS = 4
# For each call, by its number: how many whole numbers it has.
NUMBERS_TOLD = (0, 0, 2, 0, 0, 1, 0, 1, 0)
# The calls load and price, which have a list.
WITH_LIST = (0, 6)

NO_TABLE = -1
NO_SUCH_ROOM = -3
NO_SUCH_CHANGES = -4
MOST_ROOM = 1000000
MOST_CHANGES = 1000
FIRST_ROOM = 1000000
FIRST_CHANGES = 0


class Keeper:
    """Holds a table and terms, or none, and answers the calls."""

    def __init__(self):
        self.table = None
        self.groupings = None
        self.sets = None
        self.room = FIRST_ROOM
        self.changes = FIRST_CHANGES

    def answer(self, call, told):
        """What the call answers, with the numbers, or the list, told with it."""
        if call == LOAD:
            return self.load(told)
        if self.table is None:
            return [NO_TABLE]
        if call == SHOWN:
            return self.shown()
        if call == TERMS:
            return self.set_terms(told[0], told[1])
        if call == BEST:
            return self.best()
        if call == STEPS:
            return self.steps()
        raise NotImplementedError("this call isn't there yet")

    def load(self, text):
        """Takes the text's table, or tells its fault."""
        try:
            table = read_table(text)
        except Fault as e:
            return [0, e.code, e.place]
        self.table = table
        self.groupings = Groupings(table)
        self.sets = None
        self.room = FIRST_ROOM
        self.changes = FIRST_CHANGES
        return [1, len(table.columns), len(table.rows), len(table.questions)]

    def shown(self):
        """The one form."""
        form = one_form(self.table)
        return [len(form)] + form

    def set_terms(self, room, changes):
        """Takes the terms, if they are allowed."""
        if room < 0 or room > MOST_ROOM:
            return [NO_SUCH_ROOM]
        if changes < 0 or changes > MOST_CHANGES:
            return [NO_SUCH_CHANGES]
        self.room = room
        self.changes = changes
        return [1]

    def best(self):
        """The best set."""
        # All sets are gone through once a table, and only if it's asked for.
        if self.sets is None:
            self.sets = AllSets(self.groupings)
        return self.told_set(best_set(self.sets, self.room, self.changes))

    def steps(self):
        """The set found step by step."""
        return self.told_set(step_by_step(self.groupings, self.room, self.changes))

    def told_set(self, kept):
        """What a set costs, its lines, how many groupings, and they."""
        cost = cost_of(self.groupings, kept, self.changes)
        return [cost, lines_of(self.groupings, kept), len(kept)] + kept


def answers(calls):
    """For each call, in order: how many numbers are answered, and they."""
    keeper = Keeper()
    answered = []
    place = 0
    while place < len(calls):
        call = calls[place]
        begin = told_begin(call, place)
        end = told_end(calls, begin, call)
        answer = keeper.answer(call, calls[begin:end])
        answered.append(len(answer))
        answered.extend(answer)
        place = end
    return answered


def told_begin(call, place):
    """Where the numbers told with the call at this place begin."""
    # A list has how many numbers it has ahead of it.
    return place + 2 if call in WITH_LIST else place + 1


def told_end(calls, begin, call):
    """The place behind the numbers told with the call."""
    if call in WITH_LIST:
        return begin + calls[begin - 1]
    return begin + NUMBERS_TOLD[call]
