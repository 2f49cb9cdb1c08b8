"""Sets of groupings: what they cost, the best ones, those found step by step, the curve."""

COST_OF_CHANGE = 2


class Groupings:
    """All groupings' sizes, in order, and the questions that are asked.

    A question that can be worked out from no kept answer costs the whole table.
    """

    def __init__(self, table):
        self.whole = len(table.rows)
        self.asked = list(table.questions)
        self.sizes = [size_of(table.rows, grouping) for grouping in range(1 << len(table.columns))]


class AllSets:
    """Of each set, by its number: what reading costs, its lines, how many it keeps."""

    def __init__(self, groupings):
        self.readings = all_readings(groupings)
        self.lines = all_lines(groupings.sizes)
        self.kept_counts = all_lines([1] * len(groupings.sizes))


def size_of(rows, grouping):
    """How many lines the grouping's answer has."""
    return len(set([told_apart(row[0], grouping) for row in rows]))


def told_apart(values, grouping):
    """A row's numbers in the grouping's columns."""
    return tuple([value for place, value in enumerate(values) if grouping >> place & 1 == 1])


def has_all(grouping, question):
    """Whether the question can be worked out from the grouping's answer."""
    return grouping & question == question


def all_lines(sizes):
    """For each set, by its number, the sizes of those in it together."""
    lines = [0]
    for size in sizes:
        # The sets with one more grouping stand behind those without it, in the
        # same order: so each one's place is its number.
        lines = lines + [fewer + size for fewer in lines]
    return lines


def all_readings(groupings):
    """For each set, by its number, what all questions cost."""
    costs = [0] * (1 << len(groupings.sizes))
    for question, times in groupings.asked:
        read = all_read(groupings, question)
        costs = [cost + times * lines for cost, lines in zip(costs, read)]
    return costs


def all_read(groupings, question):
    """For each set, by its number, what the question costs once."""
    read = [groupings.whole]
    for grouping, size in enumerate(groupings.sizes):
        if has_all(grouping, question):
            read = read + [size if size < lines else lines for lines in read]
        else:
            read = read + read
    return read


def best_set(sets, room, changes):
    """The best set's groupings, in order."""
    return least_of(sets, [number for number, lines in enumerate(sets.lines) if lines <= room], changes)


def best_few(sets, most):
    """The groupings of the best few, at most so many, in order."""
    return least_of(sets, [number for number, count in enumerate(sets.kept_counts) if count <= most], 0)


def least_of(sets, numbers, changes):
    """The groupings of the best of the sets with these numbers, the empty one's 0 among them."""
    best = 0
    least = (sets.readings[0], 0)
    for number in numbers:
        cost = cost_by_number(sets, number, changes)
        lines = sets.lines[number]
        # Numbers come in order: of alike sets the least number stays.
        if (cost, lines) < least:
            best = number
            least = (cost, lines)
    return members(best)


def cost_by_number(sets, number, changes):
    """What the set that has this number costs."""
    return sets.readings[number] + upkeep(sets.kept_counts[number], changes)


def members(number):
    """The groupings of the set that has this number, in order."""
    return [grouping for grouping in range(number.bit_length()) if number >> grouping & 1 == 1]


def rooms_that_bring(sets, changes):
    """Each room that brings something, the least first, with what the best set for it costs."""
    least = {}
    for number, lines in enumerate(sets.lines):
        cost = cost_by_number(sets, number, changes)
        if lines not in least or cost < least[lines]:
            least[lines] = cost
    rooms = []
    for room, cost in sorted(least.items()):
        if len(rooms) == 0 or cost < rooms[-1][1]:
            rooms.append((room, cost))
    return rooms


def step_by_step(groupings, room, changes):
    """The groupings found step by step, in the order in which they're taken."""
    return steps_at_most(groupings, room, changes, len(groupings.sizes))


def few_step_by_step(groupings, most):
    """The few, at most so many, found step by step, in the order in which they're taken."""
    # Room for all answers together is as good as no bound.
    return steps_at_most(groupings, sum(groupings.sizes), 0, most)


def steps_at_most(groupings, room, changes, most):
    """The groupings of the first steps, at most so many."""
    kept = []
    while len(kept) < most:
        step = best_step(groupings, kept, room, changes)
        if step is None:
            break
        kept.append(step)
    return kept


def best_step(groupings, kept, room, changes):
    """The grouping to keep beside those kept, None if there's none."""
    free = room - lines_of(groupings, kept)
    least = cost_of(groupings, kept, changes)
    step = None
    for grouping, size in enumerate(groupings.sizes):
        if size <= free and grouping not in kept:
            cost = cost_of(groupings, kept + [grouping], changes)
            if cost < least:
                step = grouping
                least = cost
    return step


def lines_of(groupings, kept):
    """How many lines the kept answers have together."""
    return sum([groupings.sizes[grouping] for grouping in kept])


def cost_of(groupings, kept, changes):
    """What the set costs."""
    return reading_of(groupings, kept) + upkeep(len(kept), changes)


def reading_of(groupings, kept):
    """What all questions cost with just these kept."""
    return sum([times * what_is_read(groupings, question, kept)[0] for question, times in groupings.asked])


def what_is_read(groupings, question, kept):
    """How many lines the question reads, and of which grouping, None if it's the table."""
    # Of alike sizes the pair with the lesser grouping is the least.
    useful = [(groupings.sizes[grouping], grouping) for grouping in kept if has_all(grouping, question)]
    return min(useful, default=(groupings.whole, None))


def questions_that_read(groupings, grouping, kept):
    """The questions, by number, that read this grouping's answer with just these kept."""
    return [number for number, asked in enumerate(groupings.asked)
            if what_is_read(groupings, asked[0], kept)[1] == grouping]


def upkeep(count, changes):
    """What all changes cost with so many answers kept."""
    return COST_OF_CHANGE * count * changes
