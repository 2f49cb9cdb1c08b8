"""The calls mixed in one list, and what the document promises over all of them."""

import unittest

from bestkept.answersets import answers
from helper import (BEST, CURVE, FAR, SHOWN, STEPS, WORKED, Chance, MadeUp, Plain, as_bytes, few, load, made_up,
                    plain_load, price, run, terms, why)


def largest():
    rows = [([number % 2, number // 2 % 2, number // 4 % 2, number // 8], number) for number in range(16)]
    questions = [([0], 99), ([1], 98), ([2, 3], 97), ([], 96), ([0, 1, 2], 95), ([3], 94), ([1, 3], 93), ([0, 2], 92)]
    return MadeUp(["a", "b", "c", "d"], rows, questions)


class Worked(unittest.TestCase):
    LINES = [(load(WORKED), [1, 2, 5, 4]),
             (BEST, [15, 8, 4, 0, 1, 2, 3]),
             (STEPS, [15, 8, 4, 3, 1, 0, 2]),
             (few(1), [21, 1, 3, 21, 1, 3]),
             (CURVE, [8, 0, 35, 1, 31, 2, 23, 3, 21, 4, 19, 5, 17, 6, 16, 8, 15]),
             (terms(100, 1), [1]),
             (BEST, [21, 5, 2, 1, 3]),
             (price([0, 1, 3]), [22, 6, 16, 6, 1]),
             (why(1), [1, 2, 2, 0, 3]),
             (why(0), [0, 1, 1]),
             (terms(3, 0), [1]),
             (BEST, [21, 3, 1, 3]),
             (why(1), [0, -4, 0])]

    def test_all_in_one_list_each_with_its_count(self):
        calls = []
        expected = []
        for call, answer in self.LINES:
            calls += call
            expected += [len(answer)] + answer
        self.assertEqual(answers(calls), expected)

    def test_each_list_of_the_first_of_them(self):
        for count in range(1, len(self.LINES) + 1):
            found = run(*[call for call, _ in self.LINES[:count]])
            self.assertEqual(found, [answer for _, answer in self.LINES[:count]])


class WhatIsHeld(unittest.TestCase):
    ASKED = [few(1), few(4), price([3, 0]), why(0), why(1), CURVE, price([4]), why(3)]
    OTHER = "columns a ; row 1 : 1 ; row 1 : 2 ; row 2 : 3 ; ask a times 5 ; ask ;"

    def test_a_wrong_load_changes_nothing(self):
        wrong = ["", "?", "columns a, a ;", "columns a, b, c, d, e ;", "columns a ; row 10 : 1 ;", "columns a ; row",
                 "columns a ; ask b ;", "columns a ; ask a, a ;", WORKED + " " * 4096]
        for told in ((1000000, 0), (3, 7), (6, 1)):
            before = run(load(WORKED), terms(*told), *self.ASKED)[2:]
            for text in wrong:
                after = run(load(WORKED), terms(*told), load(text), *self.ASKED)
                self.assertEqual(after[2][0], 0)
                self.assertEqual(after[3:], before)

    def test_a_right_load_brings_the_new_table_and_the_first_terms(self):
        for first, second in ((WORKED, self.OTHER), (self.OTHER, WORKED), (WORKED, WORKED)):
            fresh = run(load(second), *self.ASKED)[1:]
            found = run(load(first), terms(2, 9), BEST, few(2), why(0), CURVE, load(second), *self.ASKED)
            self.assertEqual(found[7:], fresh)

    def test_the_other_table(self):
        found = run(load(self.OTHER), *self.ASKED)[1:]
        self.assertEqual(found, [[12, 1, 1, 12, 1, 1], [11, 2, 0, 1, 11, 2, 1, 0], [-2], [1, 1, 1, 1], [1, 5, 1, 0],
                                 [4, 0, 18, 1, 16, 2, 12, 3, 11], [-2], [-2]])


class PlainObject:
    """An object that answers the calls by the plain reckoning."""

    # Of each set of a table, by the table's text: tables come again.
    reckoned = {}

    def __init__(self):
        self.plain = None

    def answer(self, call):
        if call[0] == 0:
            return self.load(call[2:])
        if self.plain is None:
            return [-1]
        own = [None, self.shown, self.terms, self.best, self.steps, self.few, self.price, self.why, self.curve][call[0]]
        return own(*call[1:])

    def load(self, text):
        found, table = plain_load(text)
        if table is not None:
            self.table = table
            self.plain = Plain(table)
            self.room, self.changes = 1000000, 0
            if tuple(text) not in self.reckoned:
                self.reckoned[tuple(text)] = self.plain.every_set()
            self.sets = self.reckoned[tuple(text)]
        return found

    def shown(self):
        form = as_bytes(self.table.form())
        return [len(form)] + form

    def terms(self, room, changes):
        if not 0 <= room <= 1000000:
            return [-3]
        if not 0 <= changes <= 1000:
            return [-4]
        self.room, self.changes = room, changes
        return [1]

    def best(self):
        return self.plain.best(self.room, self.changes, self.sets)

    def steps(self):
        return self.plain.steps(self.room, self.changes)

    def few(self, most):
        return self.plain.few(most, self.sets) if 0 <= most <= 4 else [-3]

    def price(self, count, *told):
        assert count == len(told)
        return self.plain.price(told, self.room, self.changes)

    def why(self, told):
        return self.plain.why(told, self.room, self.changes, self.best())

    def curve(self):
        return self.plain.curve(self.changes, self.sets)


class AgainstThePlainReckoning(unittest.TestCase):
    def some_call(self, chance, texts):
        kind = chance.below(12)
        if kind == 0:
            return load(chance.one_of(texts))
        if kind == 1:
            return load(chance.one_of(["", "columns a ; row 1 ;", "columns a, a ;", "columns a ; ask a times 0 ;", "@"]))
        if kind in (2, 3):
            return terms(chance.one_of([0, 1, 2, 3, 5, 8, 13, 21, 1000000, -1, 1000001, FAR]),
                         chance.one_of([0, 0, 0, 1, 1, 2, 7, 1000, -1, 1001, -FAR]))
        if kind == 4:
            return few(chance.one_of([0, 1, 2, 3, 4, 4, -1, 5, FAR]))
        if kind == 5:
            return price([chance.one_of([0, 1, 2, 3, 3, 0, 1, 7, chance.between(-1, 8)])
                          for _ in range(chance.below(6))])
        if kind in (6, 7):
            return why(chance.one_of([0, 1, 2, 3, 3, 5, 7, -1, 8, FAR, -FAR]))
        return chance.one_of([SHOWN, BEST, STEPS, CURVE, CURVE])

    def test_all_nine_mixed(self):
        seen = set()
        for seed in range(300):
            chance = Chance(seed)
            texts = [made_up(chance, chance.between(1, 3)).text() for _ in range(2)]
            calls = [self.some_call(chance, texts) for _ in range(chance.between(0, 17))]
            calls.insert(min(chance.below(4), len(calls)), load(texts[0]))
            calls += [self.some_call(chance, texts) for _ in range(chance.below(3))]
            self.assertLessEqual(len(calls), 20)
            plain = PlainObject()
            for call, answer in zip(calls, run(*calls)):
                self.assertEqual(answer, plain.answer(call), (calls, call))
                seen.add((call[0], min(answer[0], 2)))
        # Each call is seen refused, where it can be, and answered.
        self.assertEqual({call for call, _ in seen}, set(range(9)))
        self.assertTrue({(2, -3), (2, -4), (5, -3), (6, -2), (7, -2), (0, 0), (0, 1)} <= seen)
        self.assertTrue({(call, -1) for call in range(1, 9)} <= seen)


class TheLargestTable(unittest.TestCase):
    def setUp(self):
        self.table = largest()
        self.begin = load(self.table.text())

    def twenty(self, call):
        """The call, twenty times, in lists of at most 20 calls: all answer alike."""
        found = run(self.begin, *[call] * 19) + run(self.begin, call)
        self.assertEqual(found[0], [1, 4, 16, 8])
        self.assertEqual(found[20], [1, 4, 16, 8])
        answer = found[1]
        self.assertEqual(found[1:20] + found[21:], [answer] * 20)
        return answer

    def test_twenty_calls_of_each(self):
        plain = Plain(self.table)
        sets = plain.every_set()
        best = plain.best(1000000, 0, sets)
        self.assertEqual(self.twenty(BEST), best)
        self.assertEqual(self.twenty(STEPS), plain.steps(1000000, 0))
        for grouping in (0, 10, 15):
            self.assertEqual(self.twenty(why(grouping)), plain.why(grouping, 1000000, 0, best))
        for count in (0, 2, 4):
            self.assertEqual(self.twenty(few(count)), plain.few(count, sets))
        self.assertEqual(self.twenty(CURVE), plain.curve(0, sets))
        self.assertEqual(self.twenty(price(list(range(16)))), plain.price(range(16), 1000000, 0))

    def test_loaded_ten_times(self):
        for call in (few(4), why(3), CURVE):
            found = run(*[self.begin, call] * 10)
            self.assertEqual(found[1::2], [found[1]] * 10)

    def test_many_terms(self):
        told = [terms(room, changes) for room, changes in ((0, 0), (15, 0), (81, 2), (30, 50), (20, 1))]
        calls = [part for one in told for part in (one, BEST, why(15))]
        plain = PlainObject()
        for call, answer in zip([self.begin] + calls, run(self.begin, *calls)):
            self.assertEqual(answer, plain.answer(call))


class Promises(unittest.TestCase):
    """Promises 1, 3 and 5, by what the calls tell of one another."""

    def test_what_is_told_of_the_best_set_hangs_together(self):
        for seed in range(120):
            chance = Chance(seed)
            text = made_up(chance, chance.between(1, 4)).text()
            told = terms(chance.between(0, 40), chance.one_of([0, 0, 1, 2, 30]))
            best, steps, curve, widest = run(load(text), told, BEST, STEPS, CURVE, few(4))[2:]
            kept = best[3:]
            calls = [price(kept), price(steps[3:])] + [why(one) for one in kept]
            prices = run(load(text), told, *calls[:18])[2:]
            self.assertEqual(prices[0][:2] + prices[0][4:], best[:2] + [1])
            self.assertEqual(prices[1][:2] + prices[1][4:], steps[:2] + [1])
            self.assertEqual(best[0], [cost for room, cost in zip(curve[1::2], curve[2::2]) if room <= told[1]][-1])
            self.assertGreaterEqual(steps[0], best[0])
            self.assertLessEqual(widest[0], widest[2 + widest[1]])
            for answer in prices[2:]:
                self.assertEqual(answer[0], 1)
                self.assertGreater(answer[1], 0)

    def test_no_set_that_has_room_is_better(self):
        for seed in range(40):
            chance = Chance(1000 + seed)
            table = made_up(chance, chance.between(1, 2))
            told = terms(chance.between(0, 12), chance.one_of([0, 1, 2]))
            most = 2 ** len(table.names)
            sets = [[one for one in range(most) if number >> one & 1] for number in range(2 ** most)]
            found = run(load(table.text()), told, BEST, *map(price, sets))[2:]
            priced = [answer for answer in found[1:] if answer[4] == 1]
            self.assertEqual(found[0][:2], min(answer[:2] for answer in priced))


if __name__ == "__main__":
    unittest.main()
