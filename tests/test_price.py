import unittest

from helper import BEST, FAR, STEPS, WORKED, Chance, Plain, load, made_up, price, run, run_many, terms

MANY = 1000000


def priced(told, room=MANY, changes=0, text=WORKED):
    return run(load(text), terms(room, changes), price(told))[2]


class Worked(unittest.TestCase):
    def test_worked(self):
        self.assertEqual(priced([0, 1, 3], 100, 1), [22, 6, 16, 6, 1])

    def test_nothing_kept(self):
        for told in ((MANY, 0), (0, 0), (0, 1000), (MANY, 1000)):
            self.assertEqual(priced([], *told), [35, 0, 35, 0, 1])

    def test_single_ones(self):
        # Sizes 1, 2, 2, 3; the table has 5 rows.
        found = [priced([grouping])[:3] for grouping in range(4)]
        self.assertEqual(found, [[31, 1, 31], [23, 2, 23], [29, 2, 29], [21, 3, 21]])

    def test_changes(self):
        for changes in (0, 1, 2, 1000):
            self.assertEqual(priced([1, 3], MANY, changes), [17 + 4 * changes, 5, 17, 4 * changes, 1])
            self.assertEqual(priced([0, 1, 2, 3], MANY, changes), [15 + 8 * changes, 8, 15, 8 * changes, 1])

    def test_room(self):
        for room, enough in ((0, 0), (4, 0), (5, 1), (6, 1), (MANY, 1)):
            self.assertEqual(priced([1, 3], room), [17, 5, 17, 0, enough])
        self.assertEqual([priced([0], room)[4] for room in (0, 1, 2)], [0, 1, 1])
        self.assertEqual([priced([0, 1, 2, 3], room)[4] for room in (7, 8, 9)], [0, 1, 1])

    def test_it_need_not_be_worth_it(self):
        self.assertEqual(priced([0, 2], 3, 1000), [4028, 3, 28, 4000, 1])


class ToldTwice(unittest.TestCase):
    def test_counts_once(self):
        self.assertEqual(priced([3, 3], 3, 5), [31, 3, 21, 10, 1])
        self.assertEqual(priced([1, 3, 1, 3, 3], 5, 1), [21, 5, 17, 4, 1])

    def test_order_does_not_matter(self):
        expected = priced([0, 1, 3], 6, 7)
        for told in ([3, 1, 0], [1, 0, 3], [3, 0, 1], [0, 3, 3, 1, 0], [3, 1, 0, 1, 3]):
            self.assertEqual(priced(told, 6, 7), expected)

    def test_two_thousand_numbers(self):
        self.assertEqual(priced([3] * 2000, 3, 1000), [2021, 3, 21, 2000, 1])
        self.assertEqual(priced([3, 1, 0, 2] * 500, 8, 1), [23, 8, 15, 8, 1])
        self.assertEqual(priced([0] * 1999 + [1], 3, 0), [22, 3, 22, 0, 1])
        self.assertEqual(priced([1] * 1999 + [4]), [-2])
        self.assertEqual(priced([FAR] * 2000), [-2])


class Refused(unittest.TestCase):
    WRONG = [-1, -2, -FAR, FAR, 2 ** 31, 2 ** 32, 2 ** 32 + 1, -2 ** 32, 2 ** 53 + 1]

    def test_at_each_place(self):
        for columns, names in ((1, "a"), (2, "a, b"), (3, "a, b, c"), (4, "a, b, c, d")):
            most = 2 ** columns
            begin = [load(f"columns {names} ; ask ;")]
            right = list(range(most))
            self.assertEqual(run(*begin, price(right))[1], [0, 0, 0, 0, 1])
            for wrong in self.WRONG + [most, most + 1, 16, 17]:
                lists = [[wrong], [wrong] + right, right + [wrong], right[:1] + [wrong] + right[1:],
                         [wrong, wrong], [0, wrong, -1, 0]]
                self.assertEqual(run_many(begin, list(map(price, lists))), [[-2]] * len(lists))

    def test_a_refusal_changes_nothing(self):
        found = run(load(WORKED), terms(5, 1), BEST, STEPS, price([3, 1]), price([4]), price([0, -1]),
                    BEST, STEPS, price([3, 1]))
        self.assertEqual(found[5:7], [[-2], [-2]])
        self.assertEqual(found[7:], found[2:5])


class Edges(unittest.TestCase):
    def test_no_rows(self):
        text = "columns a, b ; ask a times 99 ; ask ;"
        for room in (0, MANY):
            self.assertEqual(priced([0, 1, 3], room, 0, text), [0, 0, 0, 0, 1])
            self.assertEqual(priced([0, 1, 3], room, 1000, text), [6000, 0, 0, 6000, 1])

    def test_no_questions(self):
        text = "columns a, b ; row 1, 2 : 3 ; row 1, 3 : 3 ;"
        self.assertEqual(priced([1, 3], 3, 1, text), [4, 3, 0, 4, 1])
        self.assertEqual(priced([1, 3], 2, 0, text), [0, 3, 0, 0, 0])

    def test_an_answer_as_large_as_the_table(self):
        text = "columns a ; row 1 : 1 ; row 2 : 1 ; ask a times 3 ;"
        self.assertEqual(priced([1], 2, 0, text), [6, 2, 6, 0, 1])


class AgainstThePlainReckoning(unittest.TestCase):
    def some_list(self, chance, most):
        told = [chance.below(most) for _ in range(chance.one_of([0, 1, 2, 3, 5, 12]))]
        if chance.below(6) == 0:
            told.insert(chance.below(len(told) + 1), chance.one_of([-1, most, FAR, -FAR]))
        return told

    def test_made_up_tables(self):
        answers_seen = set()
        for seed in range(400):
            chance = Chance(seed)
            table = made_up(chance, chance.between(1, 4))
            plain = Plain(table)
            room = chance.between(0, sum(plain.sizes))
            changes = chance.one_of([0, 1, 3, 1000])
            lists = [self.some_list(chance, len(plain.sizes)) for _ in range(18)]
            found = run(load(table.text()), terms(room, changes), *map(price, lists))[2:]
            for told, answer in zip(lists, found):
                self.assertEqual(answer, plain.price(told, room, changes), (table.text(), told, room, changes))
                answers_seen.add(answer[0] if len(answer) == 1 else answer[4])
        self.assertEqual(answers_seen, {-2, 0, 1})

    def test_just_the_room(self):
        for seed in range(60):
            chance = Chance(1000 + seed)
            table = made_up(chance, chance.between(1, 4))
            plain = Plain(table)
            told = [chance.below(len(plain.sizes)) for _ in range(4)]
            lines = plain.lines(set(told))
            for room in (lines, lines + 1, max(lines - 1, 0)):
                self.assertEqual(priced(told, room, 0, table.text())[4], int(lines <= room))


class Promise2(unittest.TestCase):
    """One more kept never makes reading cost more; the more are kept the less it saves."""

    def readings(self, text, sets):
        # Neither room nor changes matter to what all questions cost.
        return [answer[2] for answer in run_many([load(text), terms(3, 2)], list(map(price, sets)))]

    def test_all_sets_of_small_tables(self):
        for seed in range(60):
            chance = Chance(seed)
            table = made_up(chance, chance.between(1, 2))
            most = 2 ** len(table.names)
            sets = [[one for one in range(most) if number >> one & 1] for number in range(2 ** most)]
            costs = self.readings(table.text(), sets)
            for number in range(2 ** most):
                for one in range(most):
                    saved = costs[number] - costs[number | 1 << one]
                    self.assertGreaterEqual(saved, 0)
                    for more in range(most):
                        later = costs[number | 1 << more] - costs[number | 1 << more | 1 << one]
                        self.assertTrue(later <= saved or one == more)

    def test_larger_tables(self):
        less = 0
        for seed in range(250):
            chance = Chance(1000 + seed)
            table = made_up(chance, chance.between(3, 4))
            most = 2 ** len(table.names)
            few = [one for one in range(most) if chance.below(4) == 0]
            many = few + [one for one in range(most) if one not in few and chance.below(2)]
            one = chance.below(most)
            costs = self.readings(table.text(), [few, few + [one], many, many + [one]])
            self.assertLessEqual(costs[1], costs[0])
            self.assertLessEqual(costs[3], costs[2])
            self.assertLessEqual(costs[2], costs[0])
            if one not in many:
                self.assertLessEqual(costs[2] - costs[3], costs[0] - costs[1])
                less += costs[2] - costs[3] < costs[0] - costs[1]
        self.assertGreater(less, 0)


if __name__ == "__main__":
    unittest.main()
