import unittest

from helper import BEST, STEPS, WORKED, Chance, MadeUp, Plain, load, made_up, run, terms

MANY = 1000000


def under(text, every_terms, call):
    """What the call answers under each of the terms (room, changes)."""
    found = []
    for begin in range(0, len(every_terms), 9):
        calls = [part for told in every_terms[begin:begin + 9] for part in (terms(*told), call)]
        found += run(load(text), *calls)[2::2]
    return found


class Worked(unittest.TestCase):
    def test_best(self):
        found = run(load(WORKED), BEST, terms(100, 1), BEST, terms(3, 0), BEST)
        self.assertEqual(found[0], [1, 2, 5, 4])
        self.assertEqual(found[1], [15, 8, 4, 0, 1, 2, 3])
        self.assertEqual(found[3], [21, 5, 2, 1, 3])
        self.assertEqual(found[5], [21, 3, 1, 3])

    def test_best_for_each_room_of_the_worked_curve(self):
        costs = [35, 31, 23, 21, 19, 17, 16, 16, 15, 15]
        found = under(WORKED, [(room, 0) for room in range(10)], BEST)
        self.assertEqual([answer[0] for answer in found], costs)

    def test_steps(self):
        self.assertEqual(run(load(WORKED), STEPS)[1], [15, 8, 4, 3, 1, 0, 2])

    def test_steps_under_other_terms(self):
        # 35 with nothing; 3 saves 14, then 1 saves 4, less 2 for a change each.
        found = run(load(WORKED), terms(100, 1), STEPS, terms(3, 0), STEPS, terms(2, 0), STEPS)
        self.assertEqual(found[2], [21, 5, 2, 3, 1])
        self.assertEqual(found[4], [21, 3, 1, 3])
        self.assertEqual(found[6], [23, 2, 1, 1])


class Edges(unittest.TestCase):
    def both(self, text, room, changes):
        return run(load(text), terms(room, changes), BEST, STEPS)[2:]

    def test_no_rows(self):
        text = "columns a, b ; ask a times 99 ; ask ;"
        for room, changes in ((0, 0), (MANY, 0), (0, 1000), (MANY, 1000)):
            self.assertEqual(self.both(text, room, changes), [[0, 0, 0], [0, 0, 0]])

    def test_no_questions(self):
        text = "columns a, b ; row 1, 2 : 3 ; row 1, 3 : 3 ;"
        for room, changes in ((0, 0), (MANY, 0), (0, 1000), (MANY, 1000)):
            self.assertEqual(self.both(text, room, changes), [[0, 0, 0], [0, 0, 0]])

    def test_columns_alone(self):
        self.assertEqual(self.both("columns a ;", MANY, 0), [[0, 0, 0], [0, 0, 0]])

    def test_no_room(self):
        self.assertEqual(self.both(WORKED, 0, 0), [[35, 0, 0], [35, 0, 0]])
        self.assertEqual(self.both(WORKED, 0, 1000), [[35, 0, 0], [35, 0, 0]])

    def test_room_just_enough(self):
        self.assertEqual(self.both(WORKED, 8, 0)[0], [15, 8, 4, 0, 1, 2, 3])
        self.assertEqual(self.both(WORKED, 7, 0)[0][0], 16)

    def test_changes_that_cost_more_than_they_save(self):
        self.assertEqual(self.both(WORKED, MANY, 1000), [[35, 0, 0], [35, 0, 0]])
        # A grouping saves 14 at most: 7 changes cost as much, and it isn't kept.
        self.assertEqual(self.both(WORKED, MANY, 7), [[35, 0, 0], [35, 0, 0]])
        self.assertEqual(self.both(WORKED, MANY, 6), [[33, 3, 1, 3], [33, 3, 1, 3]])

    def test_one_row(self):
        # One row: no answer is smaller than the table, so nothing is worth keeping.
        self.assertEqual(self.both("columns a ; row 1 : 1 ; ask times 99 ; ask a times 99 ;", MANY, 0),
                         [[198, 0, 0], [198, 0, 0]])

    def test_amounts_make_no_groups(self):
        text = "columns a ; row 1 : 1 ; row 1 : 2 ; row 1 : -3 ; ask a ;"
        self.assertEqual(self.both(text, MANY, 0), [[1, 1, 1, 1], [1, 1, 1, 1]])

    def test_alike_questions_count_each(self):
        text = "columns a ; row 1 : 1 ; row 1 : 2 ; ask a ; ask a times 2 ; ask a times 3 ;"
        self.assertEqual(self.both(text, 0, 0), [[12, 0, 0], [12, 0, 0]])
        self.assertEqual(self.both(text, MANY, 1), [[8, 1, 1, 1], [8, 1, 1, 1]])


class Alike(unittest.TestCase):
    def test_fewer_lines(self):
        table = MadeUp(["a"], [([0], 1), ([0], 1), ([1], 1)], [([0], 1), ([], 1)])
        found = run(load(table.text()), terms(2, 0), BEST, STEPS)[2:]
        # With grouping 0 the questions cost 3 and 1, with grouping 1 2 and 2.
        self.assertEqual(found, [[4, 1, 1, 0], [4, 1, 1, 0]])

    def test_fewer_lines_though_the_number_is_greater(self):
        # Kept alone, a (3 lines) and b (2 lines) cost 30: the best is b, but step by step it's a.
        rows = [([0, 0], 1), ([1, 0], 1), ([2, 1], 1), ([2, 1], 1), ([0, 1], 1), ([1, 1], 1)]
        table = MadeUp(["a", "b"], rows, [([0], 4), ([1], 3)])
        plain = Plain(table)
        self.assertEqual(plain.sizes, [1, 3, 2, 5])
        found = run(load(table.text()), terms(3, 0), BEST, STEPS)[2:]
        self.assertEqual(found, [[30, 2, 1, 2], [30, 3, 1, 1]])

    def test_the_lesser_number(self):
        rows = [([0, 0], 1), ([1, 1], 1), ([0, 0], 1)]
        table = MadeUp(["a", "b"], rows, [([0], 1), ([1], 1)])
        # Groupings 1, 2 and 3 have two lines each; 3 alone serves both questions.
        self.assertEqual(run(load(table.text()), BEST, STEPS)[1:], [[4, 2, 1, 3], [4, 2, 1, 3]])
        # For the question of a alone 1 and 3 are alike.
        table = MadeUp(["a", "b"], rows, [([0], 1)])
        self.assertEqual(run(load(table.text()), BEST, STEPS)[1:], [[2, 2, 1, 1], [2, 2, 1, 1]])
        # With room for one of them 1 and 2 are alike; of more often asked ones it's the one.
        rows = [([0, 0], 1), ([0, 1], 1), ([1, 0], 1), ([1, 1], 1)]
        for times, taken in ((1, 1), (2, 2)):
            table = MadeUp(["a", "b"], rows, [([0], 1), ([1], times)])
            for answer in run(load(table.text()), terms(2, 0), BEST, STEPS)[2:]:
                self.assertEqual(answer[1:], [2, 1, taken])

    def test_the_number_is_that_of_the_set(self):
        # 0 and 3 (number 9) cost 8 with 4 lines, and so do 1 and 2 (number 6).
        rows = [([0, 0], 1), ([0, 1], 1), ([1, 0], 1)] + [([0, 0], 1)] * 5
        table = MadeUp(["a", "b"], rows, [([], 2), ([0], 1), ([1], 1)])
        self.assertEqual(run(load(table.text()), terms(4, 0), BEST, STEPS)[2:], [[8, 4, 2, 1, 2], [8, 4, 2, 3, 0]])

    def test_the_lesser_number_though_it_keeps_more(self):
        # 3 alone (number 8) costs 54 with 6 lines, and so do 0, 1 and 2 (number 7).
        rows = [([number % 2, number % 3], 1) for number in range(8)]
        table = MadeUp(["a", "b"], rows, [([], 1), ([0], 1), ([1], 1), ([0, 1], 6)])
        self.assertEqual(Plain(table).sizes, [1, 2, 3, 6])
        self.assertEqual(run(load(table.text()), terms(6, 0), BEST, STEPS)[2:], [[54, 6, 3, 0, 1, 2], [54, 6, 1, 3]])

    def test_steps_are_short_sighted(self):
        worse = 0
        for seed in range(200):
            chance = Chance(seed)
            found = run(load(made_up(chance, 3).text()), terms(chance.between(2, 9), 0), BEST, STEPS)[2:]
            worse += found[1][0] > found[0][0]
        self.assertGreater(worse, 0)


class AgainstThePlainReckoning(unittest.TestCase):
    def some_terms(self, chance, plain):
        whole = sum(plain.sizes)
        told = [(MANY, 0), (0, 0), (whole, 1), (MANY, 1000)]
        told += [(chance.between(0, whole + 1), chance.one_of([0, 0, 1, 2, chance.between(0, 30)])) for _ in range(5)]
        return told

    def check(self, table, chance):
        plain = Plain(table)
        sets = plain.every_set()
        every = self.some_terms(chance, plain)
        bests = under(table.text(), every, BEST)
        steps = under(table.text(), every, STEPS)
        for told, best, step in zip(every, bests, steps):
            self.assertEqual(best, plain.best(*told, sets), (table.text(), told))
            self.assertEqual(step, plain.steps(*told), (table.text(), told))
            self.promises(plain, told, best, step)

    def promises(self, plain, told, best, step):
        room, changes = told
        for answer in (best, step):
            kept = answer[3:]
            self.assertEqual(len(kept), answer[2])
            self.assertEqual(len(set(kept)), len(kept))
            self.assertEqual(answer[1], plain.lines(kept))
            self.assertEqual(answer[0], plain.cost(kept, changes))
            self.assertLessEqual(answer[1], room)
        self.assertEqual(best[3:], sorted(best[3:]))
        # Promise 3: step by step it costs no less.
        self.assertGreaterEqual(step[0], best[0])
        # Promise 5: without any one it would cost more.
        for one in best[3:]:
            without = plain.cost([other for other in best[3:] if other != one], changes)
            self.assertTrue(without > best[0] or plain.sizes[one] == 0)

    def test_small_tables(self):
        for seed in range(250):
            chance = Chance(seed)
            self.check(made_up(chance, chance.between(1, 2)), chance)

    def test_tables_of_three_columns(self):
        for seed in range(120):
            chance = Chance(1000 + seed)
            self.check(made_up(chance, 3), chance)

    def test_tables_of_four_columns(self):
        for seed in range(4):
            chance = Chance(2000 + seed)
            self.check(made_up(chance, 4), chance)

    def test_more_room_never_costs_more(self):
        for seed in range(40):
            chance = Chance(3000 + seed)
            table = made_up(chance, chance.between(1, 3))
            whole = sum(Plain(table).sizes)
            for changes in (0, 1, 5):
                costs = [answer[0] for answer in
                         under(table.text(), [(room, changes) for room in list(range(whole + 2)) + [MANY]], BEST)]
                self.assertEqual(costs, sorted(costs, reverse=True))

    def test_more_changes_never_cost_less(self):
        for seed in range(40):
            chance = Chance(4000 + seed)
            table = made_up(chance, chance.between(1, 3))
            room = chance.between(0, sum(Plain(table).sizes))
            costs = [answer[0] for answer in
                     under(table.text(), [(room, changes) for changes in list(range(20)) + [100, 999, 1000]], BEST)]
            self.assertEqual(costs, sorted(costs))


class TheLargestTable(unittest.TestCase):
    def table(self):
        rows = [([number % 2, number // 2 % 2, number // 4 % 2, number // 8], number) for number in range(16)]
        questions = [([0], 99), ([1], 98), ([2, 3], 97), ([], 96), ([0, 1, 2], 95), ([3], 94), ([1, 3], 93), ([0, 2], 92)]
        return MadeUp(["a", "b", "c", "d"], rows, questions)

    def test_twenty_calls(self):
        table = self.table()
        plain = Plain(table)
        sets = plain.every_set()
        told = [(MANY, 0), (81, 1), (20, 0), (7, 3), (0, 0), (5, 1000)]
        calls = [load(table.text())]
        for one in told:
            calls += [terms(*one), BEST, STEPS]
        found = run(*calls, BEST)
        self.assertEqual(len(calls) + 1, 20)
        self.assertEqual(found[0], [1, 4, 16, 8])
        for place, one in enumerate(told):
            self.assertEqual(found[3 * place + 2], plain.best(*one, sets))
            self.assertEqual(found[3 * place + 3], plain.steps(*one))
        self.assertEqual(found[19], found[17])

    def test_loaded_ten_times(self):
        text = self.table().text()
        found = run(*[load(text), BEST] * 10)
        self.assertEqual(found[0::2], [[1, 4, 16, 8]] * 10)
        self.assertEqual(found[1::2], [found[1]] * 10)


if __name__ == "__main__":
    unittest.main()
