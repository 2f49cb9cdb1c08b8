import unittest

from helper import BEST, CURVE, STEPS, WORKED, Chance, Plain, load, made_up, run, run_many, terms

MANY = 1000000


def curve(text, room=MANY, changes=0):
    return run(load(text), terms(room, changes), CURVE)[2]


def pairs(told):
    """The rooms and costs that curve answers, as pairs."""
    assert len(told) == 1 + 2 * told[0]
    return list(zip(told[1::2], told[2::2]))


def cost_for(told, room):
    """The cost of the last room of the curve that's no greater."""
    return [cost for least, cost in pairs(told) if least <= room][-1]


class Worked(unittest.TestCase):
    FIRST = [8, 0, 35, 1, 31, 2, 23, 3, 21, 4, 19, 5, 17, 6, 16, 8, 15]

    def test_worked(self):
        self.assertEqual(run(load(WORKED), CURVE)[1], self.FIRST)

    def test_the_room_told_does_not_matter(self):
        for room in (0, 1, 3, 7, 8, MANY):
            self.assertEqual(curve(WORKED, room), self.FIRST)
            self.assertEqual(curve(WORKED, room, 1), [5, 0, 35, 1, 33, 2, 25, 3, 23, 5, 21])

    def test_the_changes_told_do(self):
        # 0 alone saves 4, as much as 2 changes cost; 1 and 3 cost as much as 3 alone.
        self.assertEqual(curve(WORKED, MANY, 2), [3, 0, 35, 2, 27, 3, 25])
        # A grouping saves 14 at most: 7 changes cost as much.
        self.assertEqual(curve(WORKED, MANY, 6), [2, 0, 35, 3, 33])
        for changes in (7, 8, 1000):
            self.assertEqual(curve(WORKED, MANY, changes), [1, 0, 35])

    def test_the_terms_stay(self):
        for told in ((3, 0), (100, 1), (0, 1000)):
            found = run(load(WORKED), terms(*told), BEST, STEPS, CURVE, BEST, STEPS, CURVE)
            self.assertEqual(found[5:], found[2:5])


class Edges(unittest.TestCase):
    def test_no_rows(self):
        for changes in (0, 1, 1000):
            self.assertEqual(curve("columns a, b ; ask a times 99 ; ask ;", 0, changes), [1, 0, 0])

    def test_no_questions(self):
        for changes in (0, 1, 1000):
            self.assertEqual(curve("columns a, b ; row 1, 2 : 3 ; row 1, 3 : 3 ;", MANY, changes), [1, 0, 0])

    def test_columns_alone(self):
        self.assertEqual(curve("columns a, b, c, d ;"), [1, 0, 0])

    def test_nothing_is_worth_keeping(self):
        self.assertEqual(curve("columns a ; row 1 : 1 ; ask times 99 ; ask a times 99 ;"), [1, 0, 198])
        self.assertEqual(curve("columns a ; row 1 : 1 ; row 2 : 1 ; ask a ;"), [1, 0, 2])

    def test_a_room_that_brings_as_much_as_a_lesser_one_is_not_told(self):
        # 1, 2 and 3 have two lines each, and 0 has one: room for 3 brings what room for 2 does.
        text = "columns a, b ; row 0, 0 : 1 ; row 1, 1 : 1 ; row 0, 0 : 1 ; row 0, 0 : 1 ; ask a ; ask b ;"
        self.assertEqual(curve(text), [2, 0, 8, 2, 4])


class AgainstThePlainReckoning(unittest.TestCase):
    def check(self, table, every_changes):
        plain = Plain(table)
        sets = plain.every_set()
        for changes in every_changes:
            self.assertEqual(curve(table.text(), 3, changes), plain.curve(changes, sets), (table.text(), changes))

    def test_small_tables(self):
        for seed in range(200):
            chance = Chance(seed)
            self.check(made_up(chance, chance.between(1, 2)), (0, 1, chance.between(2, 20), 1000))

    def test_tables_of_three_columns(self):
        for seed in range(60):
            chance = Chance(1000 + seed)
            self.check(made_up(chance, 3), (0, 1, chance.between(2, 20)))

    def test_a_table_of_four_columns(self):
        chance = Chance(2003)
        self.check(made_up(chance, 4), (chance.one_of([0, 1]),))


class Promise4(unittest.TestCase):
    def made_up_curves(self, first_seed, count):
        for seed in range(first_seed, first_seed + count):
            chance = Chance(seed)
            table = made_up(chance, chance.between(1, 3))
            yield table, Plain(table), {changes: curve(table.text(), chance.below(9), changes)
                                        for changes in (0, 1, 2, 5, 1000)}

    def test_each_room_against_best(self):
        for table, plain, curves in self.made_up_curves(3000, 40):
            for changes in (0, 1, 1000):
                rooms = list(range(sum(plain.sizes) + 2)) + [MANY]
                calls = [part for room in rooms for part in (terms(room, changes), BEST)]
                bests = run_many([load(table.text()), terms(0, 0)], calls)[1::2]
                for room, best in zip(rooms, bests):
                    self.assertEqual(best[0], cost_for(curves[changes], room), (table.text(), room, changes))

    def test_rooms_of_a_table_of_four_columns_against_best(self):
        table = made_up(Chance(3501), 4)
        told = curve(table.text(), 0, 1)
        rooms = [room + more for room, _ in pairs(told)[:12] for more in (-1, 0, 1) if room + more >= 0]
        calls = [part for room in rooms for part in (terms(room, 1), BEST)]
        bests = run_many([load(table.text()), terms(0, 0)], calls)[1::2]
        self.assertEqual([best[0] for best in bests], [cost_for(told, room) for room in rooms])

    def test_more_room_never_costs_more(self):
        for table, plain, curves in self.made_up_curves(4000, 60):
            for told in curves.values():
                rooms = [room for room, _ in pairs(told)]
                costs = [cost for _, cost in pairs(told)]
                self.assertEqual(pairs(told)[0], (0, plain.reading([])))
                self.assertEqual(rooms, sorted(set(rooms)))
                self.assertEqual(costs, sorted(set(costs), reverse=True))
                self.assertLessEqual(rooms[-1], sum(plain.sizes))

    def test_more_changes_never_cost_less(self):
        for _, plain, curves in self.made_up_curves(5000, 60):
            for room in range(sum(plain.sizes) + 1):
                costs = [cost_for(told, room) for told in curves.values()]
                self.assertEqual(costs, sorted(costs))


if __name__ == "__main__":
    unittest.main()
