import unittest

from bestkept.answersets import answers
from helper import BEST, CURVE, FAR, SHOWN, STEPS, WORKED, few, load, price, run, terms, why

# All nine calls, and each refusal but -1.
ALL_CALLS = [load(WORKED), SHOWN, terms(5, 1), BEST, STEPS, few(2), price([3, 1, 3]), why(1), why(0), CURVE,
             load("columns"), terms(-1, 0), terms(0, -1), few(5), price([0, 4]), why(-1)]


class BeforeAnyTable(unittest.TestCase):
    CALLS = [SHOWN, terms(0, 0), terms(-1, -1), terms(FAR, -FAR), BEST, STEPS, few(0), few(1), few(-FAR), few(5),
             price([]), price([0, 1]), price([FAR, -FAR]), price([0] * 2000), why(0), why(-1), why(FAR), CURVE]

    def test_every_call_but_load_is_refused(self):
        for call in self.CALLS:
            self.assertEqual(run(call), [[-1]])

    def test_all_of_them_in_one_list(self):
        self.assertEqual(run(*self.CALLS), [[-1]] * len(self.CALLS))

    def test_a_wrong_load_brings_none(self):
        self.assertEqual(run(load(""), *self.CALLS), [[0, 3, 0]] + [[-1]] * len(self.CALLS))

    def test_refused_terms_are_not_taken(self):
        self.assertEqual(run(terms(3, 0), load(WORKED), BEST)[2], [15, 8, 4, 0, 1, 2, 3])

    def test_nothing_of_a_refused_call_is_taken(self):
        found = run(few(1), price([0]), why(0), CURVE, load(WORKED), why(0), price([0]))
        self.assertEqual(found[4:], [[1, 2, 5, 4], [1, 1, 1, 3], [31, 1, 31, 0, 1]])


class Answers(unittest.TestCase):
    def test_each_answer_behind_how_many_numbers_it_has(self):
        calls = BEST + load(WORKED) + BEST + STEPS + terms(0, 1001) + terms(3, 0) + BEST + load("?")
        self.assertEqual(answers(calls), [1, -1, 4, 1, 2, 5, 4, 7, 15, 8, 4, 0, 1, 2, 3, 7, 15, 8, 4, 3, 1, 0, 2,
                                          1, -4, 1, 1, 4, 21, 3, 1, 3, 3, 0, 2, 0])

    def test_one_call(self):
        self.assertEqual(answers([1]), [1, -1])
        self.assertEqual(answers([0, 0]), [3, 0, 3, 0])
        self.assertEqual(answers(load("columns a ;")), [4, 1, 1, 0, 0])

    def test_shown_has_its_count(self):
        form = list(b"columns a ;\n")
        self.assertEqual(answers(load("columns a;") + SHOWN), [4, 1, 1, 0, 0, 13, 12] + form)

    def test_the_longest_text(self):
        self.assertEqual(answers([0, 8192] + [255] * 8192), [3, 0, 1, 4096])
        self.assertEqual(answers(([0, 8192] + [32] * 8192) * 2), [3, 0, 1, 4096] * 2)

    def test_the_numbers_of_the_calls_within_a_list_are_no_calls(self):
        self.assertEqual(run(price([3, 4, 0, 1]), load([3, 4, 1]), BEST), [[-1], [0, 2, 0], [-1]])

    def test_what_is_handed_in_stays(self):
        calls = sum(ALL_CALLS, [])
        before = list(calls)
        answers(calls)
        self.assertEqual(calls, before)

    def test_twice_the_same(self):
        calls = sum(ALL_CALLS, [])
        first = answers(calls)
        first_copy = list(first)
        self.assertEqual(answers(calls), first_copy)
        first.append(7)
        self.assertEqual(answers(calls), first_copy)

    def test_a_refusal_is_its_number_alone(self):
        self.assertEqual(run(*ALL_CALLS)[10:], [[0, 3, 7], [-3], [-4], [-3], [-2], [-2]])

    def test_the_longest_price(self):
        self.assertEqual(answers(load(WORKED) + price([3] * 2000) + [6, 0]),
                         [4, 1, 2, 5, 4, 5, 21, 3, 21, 0, 1, 5, 35, 0, 35, 0, 1])

    def test_nothing_is_kept_from_one_list_to_the_next(self):
        answers(load(WORKED) + terms(3, 0))
        for call in (BEST, few(1), price([]), why(0), CURVE):
            self.assertEqual(answers(call), [1, -1])

    def test_whole_numbers_alone(self):
        found = answers(sum(ALL_CALLS, []))
        self.assertIs(type(found), list)
        self.assertEqual({type(number) for number in found}, {int})


if __name__ == "__main__":
    unittest.main()
