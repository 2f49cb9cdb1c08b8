import unittest

from helper import BEST, FAR, STEPS, WORKED, Chance, MadeUp, Plain, load, made_up, price, run, run_many, terms, why

MANY = 1000000


def every_why(text, room, changes, most):
    return run_many([load(text), terms(room, changes)], [why(grouping) for grouping in range(most)])


class Worked(unittest.TestCase):
    def test_under_the_first_terms(self):
        # All four are kept: each is read by one question.
        found = run(load(WORKED), why(0), why(1), why(2), why(3))[1:]
        self.assertEqual(found, [[1, 1, 1, 3], [1, 3, 1, 0], [1, 1, 1, 1], [1, 4, 1, 2]])

    def test_with_changes(self):
        self.assertEqual(every_why(WORKED, 100, 1, 4), [[0, 1, 1], [1, 2, 2, 0, 3], [0, 1, 1], [1, 4, 2, 1, 2]])

    def test_with_little_room(self):
        # 3 alone is kept; any other would save, but there's no room.
        self.assertEqual(every_why(WORKED, 3, 0, 4), [[0, -2, 0], [0, -4, 0], [0, -2, 0], [1, 14, 4, 0, 1, 2, 3]])

    def test_with_no_room_and_with_many_changes(self):
        self.assertEqual(every_why(WORKED, 0, 0, 4), [[0, -4, 0], [0, -12, 0], [0, -6, 0], [0, -14, 0]])
        self.assertEqual(every_why(WORKED, 0, 1000, 4), [[0, 1996, 0], [0, 1988, 0], [0, 1994, 0], [0, 1986, 0]])
        self.assertEqual(every_why(WORKED, MANY, 1000, 4), [[0, 1996, 1], [0, 1988, 1], [0, 1994, 1], [0, 1986, 1]])


class NotInTheBestSet(unittest.TestCase):
    TEXT = ("columns a, b ; row 0, 0 : 1 ; row 0, 1 : 1 ; row 1, 0 : 1 ; row 1, 0 : 1 ; ask a times 2 ;")

    def test_as_much_with_it(self):
        # 1 (2 lines) is kept; 0 (1 line), 2 (2 lines) and 3 (3 lines) save nothing.
        self.assertEqual(every_why(self.TEXT, MANY, 0, 4), [[0, 0, 1], [1, 4, 1, 0], [0, 0, 1], [0, 0, 1]])

    def test_room_for_it_too_or_not(self):
        for room in range(2, 7):
            found = every_why(self.TEXT, room, 0, 4)
            self.assertEqual(found[1], [1, 4, 1, 0])
            self.assertEqual([found[0], found[2], found[3]],
                             [[0, 0, int(2 + size <= room)] for size in (1, 2, 3)])

    def test_below_0(self):
        self.assertEqual(every_why(self.TEXT, 1, 0, 4), [[0, 0, 1], [0, -4, 0], [0, 0, 0], [0, -2, 0]])
        self.assertEqual(every_why(self.TEXT, 1, 1, 4), [[0, 2, 1], [0, -2, 0], [0, 2, 0], [0, 0, 0]])

    def test_above_0(self):
        self.assertEqual(every_why(self.TEXT, 3, 1, 4), [[0, 2, 1], [1, 2, 1, 0], [0, 2, 0], [0, 2, 0]])
        self.assertEqual(every_why(self.TEXT, 3, 2, 4), [[0, 4, 1], [0, 0, 1], [0, 4, 1], [0, 2, 1]])


class WhichQuestions(unittest.TestCase):
    def test_the_lesser_grouping_of_alike_sizes(self):
        rows = [([0, 0], 1), ([0, 1], 1), ([1, 0], 1)] + [([0, 0], 1)] * 5
        table = MadeUp(["a", "b"], rows, [([], 2), ([0], 1), ([1], 1)])
        found = run(load(table.text()), terms(4, 0), BEST, why(1), why(2), why(0), why(3))[2:]
        # 1 and 2 have two lines each: ask ; reads 1, and without it 2.
        self.assertEqual(found, [[8, 4, 2, 1, 2], [1, 6, 2, 0, 1], [1, 6, 1, 2], [0, -2, 0], [0, 0, 0]])

    def test_alike_questions_are_told_each(self):
        text = "columns a ; row 1 : 1 ; row 1 : 2 ; ask a ; ask a times 2 ; ask ; ask a times 3 ; ask ;"
        self.assertEqual(run(load(text), BEST, why(1), why(0))[1:], [[8, 1, 1, 1], [1, 8, 5, 0, 1, 2, 3, 4], [0, 0, 1]])

    def test_in_order_of_their_numbers(self):
        text = WORKED + " ask city ; ask ; ask city ; ask kind, city ;"
        found = every_why(text, MANY, 0, 4)
        self.assertEqual([answer[2:] for answer in found], [[2, 3, 5], [3, 0, 4, 6], [1, 1], [2, 2, 7]])

    def test_what_no_question_reads_is_not_in_the_best_set(self):
        text = "columns a, b ; row 1, 1 : 1 ; row 1, 2 : 2 ; row 2, 2 : 2 ;"
        self.assertEqual(every_why(text, MANY, 0, 4), [[0, 0, 1]] * 4)
        self.assertEqual(every_why(text, MANY, 1, 4), [[0, 2, 1]] * 4)
        self.assertEqual(every_why(text, 1, 0, 4), [[0, 0, 1], [0, 0, 0], [0, 0, 0], [0, 0, 0]])

    def test_the_table_is_read_by_the_others(self):
        # With room for 0 alone, the questions of a and b still read the table.
        text = "columns a, b ; row 1, 1 : 1 ; row 1, 2 : 2 ; row 2, 2 : 2 ; ask a ; ask ; ask b ;"
        self.assertEqual(run(load(text), terms(1, 0), BEST, why(0))[2:], [[7, 1, 1, 0], [1, 2, 1, 1]])


class Refused(unittest.TestCase):
    def test_no_such_grouping(self):
        wrong = [-1, -2, -FAR, FAR, 2 ** 31, 2 ** 32, 2 ** 32 + 1, -2 ** 32, 2 ** 53 + 1]
        for columns, text in ((1, "columns a ; row 1 : 1 ;"), (2, "columns a, b ; row 1, 2 : 1 ;"),
                              (3, "columns a, b, c ; row 1, 2, 3 : 1 ;"), (4, "columns a, b, c, d ; row 1, 2, 3, 4 : 1 ;")):
            most = 2 ** columns
            calls = [why(one) for one in wrong + [most, most + 1, 16, 17]]
            self.assertEqual(run_many([load(text)], calls), [[-2]] * len(calls))
            self.assertEqual(run(load(text), why(0), why(most - 1))[1:], [[0, 0, 1], [0, 0, 1]])

    def test_a_refusal_changes_nothing(self):
        found = run(load(WORKED), terms(5, 1), BEST, STEPS, why(1), why(4), why(-1), BEST, STEPS, why(1))
        self.assertEqual(found[5:7], [[-2], [-2]])
        self.assertEqual(found[7:], found[2:5])


class NoLines(unittest.TestCase):
    def test_a_table_without_rows(self):
        text = "columns a, b ; ask a times 99 ; ask ;"
        for room in (0, 1, MANY):
            self.assertEqual(every_why(text, room, 0, 4), [[0, 0, 1]] * 4)
            self.assertEqual(every_why(text, room, 1000, 4), [[0, 2000, 1]] * 4)


class AgainstThePlainReckoning(unittest.TestCase):
    def setUp(self):
        self.seen = set()

    def check(self, chance, columns):
        table = made_up(chance, columns)
        plain = Plain(table)
        sets = plain.every_set()
        whole = sum(plain.sizes)
        for told in ((MANY, 0), (chance.between(0, whole), chance.one_of([0, 0, 1, 2])),
                     (chance.between(0, whole), chance.one_of([0, 1, 5, 1000]))):
            found = every_why(table.text(), *told, len(plain.sizes))
            best = plain.best(*told, sets)
            for grouping, answer in enumerate(found):
                self.assertEqual(answer, plain.why(grouping, *told, best), (table.text(), told, grouping))
                self.holds(plain, best, grouping, answer)

    def holds(self, plain, best, grouping, answer):
        self.assertEqual(answer[0], int(grouping in best[3:]))
        if answer[0] == 1:
            # Promise 5: without it the best set would cost more.
            self.assertTrue(answer[1] > 0 or plain.sizes[grouping] == 0)
            self.assertGreater(answer[2], 0)
            self.assertEqual(len(answer), 3 + answer[2])
        else:
            # Promise 1: if there's room for it, too, it doesn't cost less.
            self.assertEqual(len(answer), 3)
            self.assertTrue(answer[1] >= 0 or answer[2] == 0)
            self.seen.add(((answer[1] > 0) - (answer[1] < 0), answer[2]))

    def test_small_tables(self):
        for seed in range(200):
            chance = Chance(seed)
            self.check(chance, chance.between(1, 2))

    def test_tables_of_three_columns(self):
        for seed in range(100):
            self.check(Chance(1000 + seed), 3)
        self.assertEqual(self.seen, {(-1, 0), (0, 0), (0, 1), (1, 0), (1, 1)})

    def test_tables_of_four_columns(self):
        for seed in range(4):
            self.check(Chance(2000 + seed), 4)

    def test_it_is_what_price_tells(self):
        for seed in range(60):
            chance = Chance(3000 + seed)
            table = made_up(chance, chance.between(2, 4))
            told = terms(chance.between(0, 40), chance.one_of([0, 1, 2]))
            best = run(load(table.text()), told, BEST)[2]
            cost, kept = best[0], best[3:]
            calls = []
            for grouping in range(2 ** len(table.names)):
                others = [one for one in kept if one != grouping] + [grouping] * (grouping not in kept)
                calls += [why(grouping), price(others)]
            found = run_many([load(table.text()), told], calls)
            for answer, price_of_others in zip(found[0::2], found[1::2]):
                self.assertEqual(answer[1], price_of_others[0] - cost)
                if answer[0] == 0:
                    self.assertEqual(answer[2], price_of_others[4])


if __name__ == "__main__":
    unittest.main()
