import unittest

from helper import BEST, STEPS, WORKED, load, run, terms

FAR = 10 ** 18


class Terms(unittest.TestCase):
    def answer(self, room, changes):
        return run(load(WORKED), terms(room, changes))[1]

    def test_right(self):
        for room, changes in ((0, 0), (0, 1000), (1000000, 0), (1000000, 1000), (1, 1), (100, 1)):
            self.assertEqual(self.answer(room, changes), [1])

    def test_room_refused(self):
        for room in (-1, 1000001, -FAR, FAR, 2 ** 31, 2 ** 32, -2 ** 32, 2 ** 53 + 1):
            self.assertEqual(self.answer(room, 0), [-3])

    def test_changes_refused(self):
        for changes in (-1, 1001, -FAR, FAR, 2 ** 31, 2 ** 32, -2 ** 32, 2 ** 53 + 1):
            for room in (0, 5, 1000000):
                self.assertEqual(self.answer(room, changes), [-4])

    def test_room_is_looked_at_ahead_of_changes(self):
        for room in (-1, 1000001, FAR):
            for changes in (-1, 1001, -FAR):
                self.assertEqual(self.answer(room, changes), [-3])

    def test_the_terms_at_first(self):
        found = run(load(WORKED), BEST, STEPS, terms(1000000, 0), BEST, STEPS)
        self.assertEqual(found[1:3], found[4:6])

    def test_terms_hold_until_others_are_told(self):
        found = run(load(WORKED), terms(3, 0), BEST, BEST, terms(100, 1), BEST, terms(3, 0), BEST)
        self.assertEqual(found[2], [21, 3, 1, 3])
        self.assertEqual(found[3], found[2])
        self.assertEqual(found[5], [21, 5, 2, 1, 3])
        self.assertEqual(found[7], found[2])

    def test_a_refusal_leaves_the_terms(self):
        before = run(load(WORKED), terms(5, 1), BEST, STEPS)[2:]
        for room, changes in ((-1, 0), (1000001, 0), (0, -1), (0, 1001), (1000000, FAR), (-FAR, FAR)):
            after = run(load(WORKED), terms(5, 1), terms(room, changes), BEST, STEPS)
            self.assertLess(after[2][0], 0)
            self.assertEqual(after[3:], before)


if __name__ == "__main__":
    unittest.main()
