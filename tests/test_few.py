import unittest

from helper import BEST, FAR, STEPS, WORKED, Chance, MadeUp, Plain, few, load, made_up, price, run, run_many, terms

EVERY_COUNT = [0, 1, 2, 3, 4]


def every_few(text):
    """What few answers for each count from 0 to 4."""
    return run(load(text), *map(few, EVERY_COUNT))[1:]


class Worked(unittest.TestCase):
    def test_every_count(self):
        self.assertEqual(every_few(WORKED), [
            [35, 0, 35, 0],
            [21, 1, 3, 21, 1, 3],
            [17, 2, 1, 3, 17, 2, 3, 1],
            [16, 3, 0, 1, 3, 16, 3, 3, 1, 0],
            [15, 4, 0, 1, 2, 3, 15, 4, 3, 1, 0, 2]])

    def test_the_terms_do_not_matter(self):
        expected = every_few(WORKED)
        for told in ((0, 0), (1, 0), (3, 0), (0, 1000), (1000000, 1000), (5, 7)):
            found = run(load(WORKED), terms(*told), *map(few, EVERY_COUNT))[2:]
            self.assertEqual(found, expected)

    def test_the_terms_stay(self):
        for told in ((3, 0), (100, 1), (0, 1000)):
            found = run(load(WORKED), terms(*told), BEST, STEPS, price([1]), few(4), few(5), BEST, STEPS, price([1]))
            self.assertEqual(found[7:], found[2:5])


class Refused(unittest.TestCase):
    def test_counts_that_are_none(self):
        wrong = [-1, 5, -2, 6, 16, 256, -FAR, FAR, 2 ** 31, 2 ** 32, 2 ** 32 + 1, -2 ** 32, 2 ** 53 + 1]
        for text in (WORKED, "columns a ;"):
            self.assertEqual(run_many([load(text)], list(map(few, wrong))), [[-3]] * len(wrong))

    def test_a_refusal_changes_nothing(self):
        found = run(load(WORKED), terms(5, 1), BEST, few(2), few(-1), few(5), BEST, few(2))
        self.assertEqual(found[4:6], [[-3], [-3]])
        self.assertEqual(found[6:], found[2:4])


class Edges(unittest.TestCase):
    def test_fewer_groupings_than_asked_for(self):
        # One column: 0 (1 line) and 1 (2 lines) are all there are.
        text = "columns a ; row 0 : 1 ; row 0 : 1 ; row 1 : 1 ; ask ; ask a ;"
        self.assertEqual(every_few(text), [
            [6, 0, 6, 0], [4, 1, 0, 4, 1, 0]] + [[3, 2, 0, 1, 3, 2, 0, 1]] * 3)

    def test_fewer_are_worth_it_than_asked_for(self):
        text = "columns a, b, c ; row 0, 0, 0 : 1 ; row 0, 1, 1 : 1 ; row 0, 0, 1 : 1 ; ask a times 9 ;"
        self.assertEqual(every_few(text), [[27, 0, 27, 0]] + [[9, 1, 1, 9, 1, 1]] * 4)

    def test_no_rows(self):
        self.assertEqual(every_few("columns a, b ; ask a times 99 ; ask ;"), [[0, 0, 0, 0]] * 5)

    def test_no_questions(self):
        self.assertEqual(every_few("columns a, b ; row 1, 2 : 3 ; row 1, 3 : 3 ;"), [[0, 0, 0, 0]] * 5)

    def test_columns_alone(self):
        self.assertEqual(every_few("columns a, b, c, d ;"), [[0, 0, 0, 0]] * 5)

    def test_no_answer_smaller_than_the_table(self):
        self.assertEqual(every_few("columns a ; row 1 : 1 ; ask times 99 ; ask a times 99 ;"), [[198, 0, 198, 0]] * 5)


class Alike(unittest.TestCase):
    def found(self, sizes, rows, questions, count):
        table = MadeUp(["a", "b"], [(row, 1) for row in rows], questions)
        self.assertEqual(Plain(table).sizes, sizes)
        return run(load(table.text()), few(count))[1]

    def test_fewer_lines_and_the_lesser_grouping(self):
        # 1 and 2 alone cost 30, with 3 lines and 2: the best is 2, but step by step it's 1.
        rows = [[0, 0], [1, 0], [2, 1], [2, 1], [0, 1], [1, 1]]
        found = self.found([1, 3, 2, 5], rows, [([0], 4), ([1], 3)], 1)
        self.assertEqual(found, [30, 1, 2, 30, 1, 1])

    def test_the_lesser_number(self):
        # 0 and 3 (number 9) cost 8 with 4 lines, and so do 1 and 2 (number 6).
        rows = [[0, 0], [0, 1], [1, 0]] + [[0, 0]] * 5
        found = self.found([1, 2, 2, 3], rows, [([], 2), ([0], 1), ([1], 1)], 2)
        self.assertEqual(found, [8, 2, 1, 2, 8, 2, 3, 0])

    def test_the_lesser_number_of_single_ones(self):
        found = self.found([1, 2, 2, 2], [[0, 0], [1, 1], [0, 0]], [([0], 1)], 3)
        self.assertEqual(found, [2, 1, 1, 2, 1, 1])

    def test_no_room_is_asked_for(self):
        # 3 has more lines than both others, and costs least.
        rows = [[0, 0], [0, 1], [1, 0], [1, 1], [1, 1], [1, 1], [1, 1], [1, 1]]
        found = self.found([1, 2, 2, 4], rows, [([0, 1], 9), ([0], 1), ([1], 1)], 1)
        self.assertEqual(found, [44, 1, 3, 44, 1, 3])


class AgainstThePlainReckoning(unittest.TestCase):
    def check(self, seed, columns):
        """Whether any of the few found step by step cost more."""
        table = made_up(Chance(seed), columns)
        plain = Plain(table)
        sets = plain.every_set()
        found = every_few(table.text())
        worse = False
        for count, answer in zip(EVERY_COUNT, found):
            self.assertEqual(answer, plain.few(count, sets), (table.text(), count))
            worse = worse or self.promise_3(count, found[0][0], answer)
        return worse

    def promise_3(self, count, nothing, answer):
        """Both save something of what it costs with nothing kept, step by step not too little."""
        best = answer[0]
        kept = answer[2:2 + answer[1]]
        steps = answer[2 + answer[1]]
        self.assertLessEqual(len(kept), count)
        self.assertEqual(kept, sorted(set(kept)))
        self.assertGreaterEqual(steps, best)
        if count > 0:
            whole = count ** count
            self.assertGreaterEqual(whole * (nothing - steps), (whole - (count - 1) ** count) * (nothing - best))
        if count < 2:
            self.assertEqual(steps, best)
        return steps > best

    def test_small_tables(self):
        for seed in range(250):
            self.check(seed, 1 + seed % 2)

    def test_tables_of_three_columns(self):
        worse = [self.check(1000 + seed, 3) for seed in range(250)]
        # Step by step is seen to miss the best few.
        self.assertIn(True, worse)

    def test_tables_of_four_columns(self):
        for seed in range(4):
            self.check(2000 + seed, 4)

    def test_promise_3_over_larger_tables(self):
        for seed in range(40):
            found = every_few(made_up(Chance(3000 + seed), 4).text())
            for count, answer in zip(EVERY_COUNT, found):
                self.promise_3(count, found[0][0], answer)


if __name__ == "__main__":
    unittest.main()
