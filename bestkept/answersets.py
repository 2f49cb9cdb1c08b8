"""The calls on one object, and what they answer."""

from bestkept.choices import AllSets, Groupings, best_few, best_set, rooms_that_bring
from bestkept.choices import cost_of, lines_of, questions_that_read, reading_of, upkeep
from bestkept.choices import few_step_by_step, step_by_step
from bestkept.faults import Fault
from bestkept.tables import one_form, read_table

LOAD = 0
SHOWN = 1
TERMS = 2
BEST = 3
STEPS = 4
FEW = 5
PRICE = 6
WHY = 7
CURVE = 8
# For each call, by its number: how many whole numbers it has.
NUMBERS_TOLD = (0, 0, 2, 0, 0, 1, 0, 1, 0)
# The calls load and price, which have a list.
WITH_LIST = (0, 6)

NO_TABLE = -1
NO_SUCH_GROUPING = -2
NO_SUCH_COUNT = -3
NO_SUCH_ROOM = -3
NO_SUCH_CHANGES = -4
MOST_ROOM = 1000000
MOST_CHANGES = 1000
MOST_FEW = 4
FIRST_ROOM = 1000000
FIRST_CHANGES = 0


class Keeper:
    """Holds a table and terms, or none, and answers the calls."""

    def __init__(self):
        self.table = None
        self.groupings = None
        self.sets = None
        self.room = FIRST_ROOM
        self.changes = FIRST_CHANGES

    def answer(self, call, told):
        """What the call answers, with the numbers, or the list, told with it."""
        if call == LOAD:
            return self.load(told)
        if self.table is None:
            return [NO_TABLE]
        if call == SHOWN:
            return self.shown()
        if call == TERMS:
            return self.set_terms(told[0], told[1])
        if call == BEST:
            return self.best()
        if call == STEPS:
            return self.steps()
        if call == FEW:
            return self.few(told[0])
        if call == PRICE:
            return self.price(told)
        if call == WHY:
            return self.why(told[0])
        return self.curve()

    def load(self, text):
        """Takes the text's table, or tells its fault."""
        try:
            table = read_table(text)
        except Fault as e:
            return [0, e.code, e.place]
        self.table = table
        self.groupings = Groupings(table)
        self.sets = None
        self.room = FIRST_ROOM
        self.changes = FIRST_CHANGES
        return [1, len(table.columns), len(table.rows), len(table.questions)]

    def shown(self):
        """The one form."""
        form = one_form(self.table)
        return [len(form)] + form

    def set_terms(self, room, changes):
        """Takes the terms, if they are allowed."""
        if room < 0 or room > MOST_ROOM:
            return [NO_SUCH_ROOM]
        if changes < 0 or changes > MOST_CHANGES:
            return [NO_SUCH_CHANGES]
        self.room = room
        self.changes = changes
        return [1]

    def best(self):
        """The best set."""
        return self.told_set(self.best_kept())

    def steps(self):
        """The set found step by step."""
        return self.told_set(step_by_step(self.groupings, self.room, self.changes))

    def few(self, most):
        """The best few, and those found step by step, whatever the terms are."""
        if most < 0 or most > MOST_FEW:
            return [NO_SUCH_COUNT]
        best = best_few(self.every_set(), most)
        return self.told_few(best) + self.told_few(few_step_by_step(self.groupings, most))

    def price(self, told):
        """What the set of these groupings costs, and whether there's room for it."""
        if not all([self.is_grouping(number) for number in told]):
            return [NO_SUCH_GROUPING]
        kept = sorted(set(told))
        lines = lines_of(self.groupings, kept)
        reading = reading_of(self.groupings, kept)
        kept_up = upkeep(len(kept), self.changes)
        return [reading + kept_up, lines, reading, kept_up, self.has_room(lines)]

    def why(self, grouping):
        """What the grouping brings to the best set, or would bring."""
        if not self.is_grouping(grouping):
            return [NO_SUCH_GROUPING]
        best = self.best_kept()
        if grouping in best:
            without = [other for other in best if other != grouping]
            read = questions_that_read(self.groupings, grouping, best)
            return [1, self.cost_beyond(best, without), len(read)] + read
        more = best + [grouping]
        return [0, self.cost_beyond(best, more), self.has_room(lines_of(self.groupings, more))]

    def curve(self):
        """The rooms that bring something, each with what the best set for it costs."""
        rooms = rooms_that_bring(self.every_set(), self.changes)
        told = [len(rooms)]
        for room, cost in rooms:
            told.extend([room, cost])
        return told

    def every_set(self):
        """All sets, gone through once a table, and only if it's asked for."""
        if self.sets is None:
            self.sets = AllSets(self.groupings)
        return self.sets

    def best_kept(self):
        """The best set's groupings, in order."""
        return best_set(self.every_set(), self.room, self.changes)

    def is_grouping(self, number):
        """Whether there's such a grouping."""
        return number >= 0 and number < len(self.groupings.sizes)

    def has_room(self, lines):
        """1 if there's room for so many lines, else 0."""
        return 1 if lines <= self.room else 0

    def cost_beyond(self, kept, others):
        """How much more the others cost than those kept, below 0 if less."""
        return cost_of(self.groupings, others, self.changes) - cost_of(self.groupings, kept, self.changes)

    def told_set(self, kept):
        """What a set costs, its lines, how many groupings, and they."""
        cost = cost_of(self.groupings, kept, self.changes)
        return [cost, lines_of(self.groupings, kept), len(kept)] + kept

    def told_few(self, kept):
        """What a few cost without changes, how many they are, and they."""
        return [reading_of(self.groupings, kept), len(kept)] + kept


def answers(calls):
    """For each call, in order: how many numbers are answered, and they."""
    keeper = Keeper()
    answered = []
    place = 0
    while place < len(calls):
        call = calls[place]
        begin = told_begin(call, place)
        end = told_end(calls, begin, call)
        answer = keeper.answer(call, calls[begin:end])
        answered.append(len(answer))
        answered.extend(answer)
        place = end
    return answered


def told_begin(call, place):
    """Where the numbers told with the call at this place begin."""
    # A list has how many numbers it has ahead of it.
    return place + 2 if call in WITH_LIST else place + 1


def told_end(calls, begin, call):
    """The place behind the numbers told with the call."""
    if call in WITH_LIST:
        return begin + calls[begin - 1]
    return begin + NUMBERS_TOLD[call]
