import unittest

from helper import SHOWN, WORKED, Chance, load, made_up, run, terms


def form(text):
    told = run(load(text), SHOWN)[1]
    assert told[0] == len(told) - 1
    return bytes(told[1:]).decode()


class Shown(unittest.TestCase):
    def test_worked(self):
        self.assertEqual(form(WORKED), "columns city, kind ;\n"
                                       "row 0, 0 : 5 ;\nrow 0, 1 : 2 ;\nrow 1, 0 : 4 ;\nrow 1, 0 : -1 ;\nrow 0, 0 : 1 ;\n"
                                       "ask city times 3 ;\nask kind ;\nask city, kind times 2 ;\nask ;\n")

    def test_rows_come_ahead_of_questions(self):
        self.assertEqual(form("columns a;ask a;row 2:3;ask;row 1:4;"),
                         "columns a ;\nrow 2 : 3 ;\nrow 1 : 4 ;\nask a ;\nask ;\n")

    def test_amounts(self):
        self.assertEqual(form("columns a;row 1:-0;row 9:- 1000;row 0:1000;row 0:- # r\n 7;"),
                         "columns a ;\nrow 1 : 0 ;\nrow 9 : -1000 ;\nrow 0 : 1000 ;\nrow 0 : -7 ;\n")

    def test_times(self):
        self.assertEqual(form("columns a;ask times 1;ask times 2;ask a times 1;ask a times 99;"),
                         "columns a ;\nask ;\nask times 2 ;\nask a ;\nask a times 99 ;\n")

    def test_columns_of_a_question_in_order_of_their_numbers(self):
        self.assertEqual(form("columns d, c, b, a ; ask a, b, c, d ; ask b, d ; ask a, c times 3 ;"),
                         "columns d, c, b, a ;\nask d, c, b, a ;\nask d, b ;\nask c, a times 3 ;\n")

    def test_alike_rows_and_questions_stay(self):
        self.assertEqual(form("columns a;row 1:1;row 1:1;ask a;ask a;"),
                         "columns a ;\nrow 1 : 1 ;\nrow 1 : 1 ;\nask a ;\nask a ;\n")

    def test_columns_alone(self):
        self.assertEqual(form("# nothing else\ncolumns a1,B2;"), "columns a1, B2 ;\n")

    def test_terms_are_not_shown(self):
        found = run(load(WORKED), SHOWN, terms(1, 1), SHOWN)
        self.assertEqual(found[1], found[3])

    def test_made_up_tables_loaded_again_show_the_same(self):
        for seed in range(300):
            chance = Chance(seed)
            table = made_up(chance, chance.between(1, 4))
            shown = form(table.text())
            self.assertEqual(shown, table.form())
            self.assertEqual(form(shown), shown)

    def test_the_longest_form(self):
        names = [letter * 16 for letter in "abcd"]
        text = ("columns " + ", ".join(names) + " ;\n" + "row 9, 9, 9, 9 : -1000 ;\n" * 16
                + ("ask " + ", ".join(names) + " times 99 ;\n") * 8)
        self.assertEqual(form(text), text)


if __name__ == "__main__":
    unittest.main()
