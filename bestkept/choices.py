"""Sets of groupings: what they cost, the best one, the one found step by step."""

COST_OF_CHANGE = 2


class Groupings:
    """All groupings' sizes, in order, and the questions that are asked.

    A question that can be worked out from no kept answer costs the whole table.
    """

    def __init__(self, table):
        self.whole = len(table.rows)
        self.asked = list(table.questions)
        self.sizes = [size_of(table.rows, grouping) for grouping in range(1 << len(table.columns))]


class AllSets:
    """Of each set, by its number: what reading costs, its lines, how many it keeps."""

    def __init__(self, groupings):
        self.readings = all_readings(groupings)
        self.lines = all_lines(groupings.sizes)
        self.kept_counts = all_lines([1] * len(groupings.sizes))


def size_of(rows, grouping):
    """How many lines the grouping's answer has."""
    return len(set([told_apart(row[0], grouping) for row in rows]))


def told_apart(values, grouping):
    """A row's numbers in the grouping's columns."""
    return tuple([value for place, value in enumerate(values) if grouping >> place & 1 == 1])


def has_all(grouping, question):
    """Whether the question can be worked out from the grouping's answer."""
    return grouping & question == question


def all_lines(sizes):
    """For each set, by its number, the sizes of those in it together."""
    lines = [0]
    for size in sizes:
        # The sets with one more grouping stand behind those without it, in the
        # same order: so each one's place is its number.
        lines = lines + [fewer + size for fewer in lines]
    return lines


def all_readings(groupings):
    """For each set, by its number, what all questions cost."""
    costs = [0] * (1 << len(groupings.sizes))
    for question, times in groupings.asked:
        read = all_read(groupings, question)
        costs = [cost + times * lines for cost, lines in zip(costs, read)]
    return costs


def all_read(groupings, question):
    """For each set, by its number, what the question costs once."""
    read = [groupings.whole]
    for grouping, size in enumerate(groupings.sizes):
        if has_all(grouping, question):
            read = read + [size if size < lines else lines for lines in read]
        else:
            read = read + read
    return read


def best_set(sets, room, changes):
    """The best set's groupings, in order."""
    best = 0
    least = (sets.readings[0], 0)
    for number, lines in enumerate(sets.lines):
        if lines <= room:
            cost = sets.readings[number] + upkeep(sets.kept_counts[number], changes)
            # Numbers come in order: of alike sets the least number stays.
            if (cost, lines) < least:
                best = number
                least = (cost, lines)
    return members(best)


def members(number):
    """The groupings of the set that has this number, in order."""
    return [grouping for grouping in range(number.bit_length()) if number >> grouping & 1 == 1]


def step_by_step(groupings, room, changes):
    """The groupings found step by step, in the order in which they're taken."""
    kept = []
    step = best_step(groupings, kept, room, changes)
    while step is not None:
        kept.append(step)
        step = best_step(groupings, kept, room, changes)
    return kept


def best_step(groupings, kept, room, changes):
    """The grouping to keep beside those kept, None if there's none."""
    free = room - lines_of(groupings, kept)
    least = cost_of(groupings, kept, changes)
    step = None
    for grouping, size in enumerate(groupings.sizes):
        if size <= free and grouping not in kept:
            cost = cost_of(groupings, kept + [grouping], changes)
            if cost < least:
                step = grouping
                least = cost
    return step


def lines_of(groupings, kept):
    """How many lines the kept answers have together."""
    return sum([groupings.sizes[grouping] for grouping in kept])


def cost_of(groupings, kept, changes):
    """What the set costs."""
    return reading_of(groupings, kept) + upkeep(len(kept), changes)


def reading_of(groupings, kept):
    """What all questions cost with just these kept."""
    return sum([times * read_of(groupings, question, kept) for question, times in groupings.asked])


def read_of(groupings, question, kept):
    """What the question costs once with just these kept."""
    useful = [groupings.sizes[grouping] for grouping in kept if has_all(grouping, question)]
    return min(useful, default=groupings.whole)


def upkeep(count, changes):
    """What all changes cost with so many answers kept."""
    return COST_OF_CHANGE * count * changes
