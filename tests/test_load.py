import unittest

from helper import (BEST, SHOWN, WORKED, Chance, as_bytes, load, made_up, plain_load, run, terms)

ROW = "row 0 : 1 ; "
ASK = "ask a ; "


def loaded(text):
    return run(load(text))[0]


class Right(unittest.TestCase):
    def right(self, text, columns, rows, questions):
        self.assertEqual(loaded(text), [1, columns, rows, questions], text)

    def test_worked(self):
        self.right(WORKED, 2, 5, 4)

    def test_columns_alone(self):
        self.right("columns a;", 1, 0, 0)
        self.right("columns a,b,c,d;", 4, 0, 0)

    def test_most_rows_and_questions(self):
        self.right("columns a ; " + ROW * 16, 1, 16, 0)
        self.right("columns a ; " + ASK * 8, 1, 0, 8)
        self.right("columns a ; " + ROW * 16 + ASK * 8, 1, 16, 8)

    def test_rows_and_questions_mixed(self):
        self.right("columns a ; ask a ; row 1 : 2 ; ask ; row 2 : 3 ; row 2 : 3 ; ask times 2 ;", 1, 3, 3)

    def test_question_with_no_columns(self):
        self.right("columns a ; ask ;", 1, 0, 1)
        self.right("columns a ; ask times 5 ;", 1, 0, 1)

    def test_numbers_at_their_bounds(self):
        for amount in ("0", "-0", "1000", "-1000", "- 1000", "1", "-1"):
            self.right(f"columns a ; row 9 : {amount} ;", 1, 1, 0)
        for times in (1, 2, 98, 99):
            self.right(f"columns a ; ask a times {times} ;", 1, 0, 1)

    def test_names(self):
        self.right("columns abcdefghijklmnop, A, a, Z9z0 ; ask abcdefghijklmnop, a, A, Z9z0 ;", 4, 0, 1)
        self.right("columns Row, askx, times1, columnsX ; ask times1, Row, askx times 7 ;", 4, 0, 1)

    def test_tokens_that_touch(self):
        self.right("columns a,b;row 1,2:-3;ask a,b times 4;ask;", 2, 1, 2)
        self.right("columns a;ask#\na#\n;", 1, 0, 1)

    def test_blanks_and_remarks_between_any_two_tokens(self):
        tokens = ["columns", "a", ",", "b", ";", "row", "1", ",", "2", ":", "-", "3", ";",
                  "ask", "a", ",", "b", "times", "4", ";", "ask", "times", "5", ";"]
        for between in (" ", "\t", "\n", " \t\n ", "#\n", "# row ; \xff\x00 \r # \n", "\n#x\n#y\n\t"):
            self.right(between + between.join(tokens) + between, 2, 1, 2)
            for place in range(len(tokens) + 1):
                text = " ".join(tokens[:place]) + between + " ".join(tokens[place:])
                self.right(text, 2, 1, 2)

    def test_remark_up_to_the_end(self):
        self.right("columns a ; # to the end", 1, 0, 0)
        self.right("columns a ;#", 1, 0, 0)

    def test_most_bytes(self):
        text = "columns a ; row 1 : 1 ;"
        self.right(text + " " * (4096 - len(text)), 1, 1, 0)
        self.right("#" * (4095 - len(text)) + "\n" + text, 1, 1, 0)


class Faults(unittest.TestCase):
    def fault(self, code, text):
        """In the text the sign @ stands ahead of the fault's place."""
        self.assertEqual(text.count("@"), 1, text)
        place = text.index("@")
        self.assertEqual(loaded(text.replace("@", "")), [0, code, place], text)

    def test_1_more_than_4096_bytes(self):
        text = "columns a ;"
        for length in (4097, 4098, 8192):
            self.assertEqual(loaded(text + " " * (length - len(text))), [0, 1, 4096])

    def test_1_comes_ahead_of_all_else(self):
        self.assertEqual(loaded("?" + " " * 4096), [0, 1, 4096])
        self.assertEqual(loaded("row" + " " * 4094), [0, 1, 4096])

    def test_2_no_token(self):
        for sign in "\r\x00\x0b\x0c!\"$%&'()*+./<=>?[\\]^_`{|}~\x7f\x80\xa0\xe9\xff":
            self.fault(2, "columns a ; @" + sign)
            self.fault(2, "@" + sign + "columns a ;")
            self.fault(2, "columns a@" + sign + " ;")

    def test_2_every_byte(self):
        for byte in range(256):
            answer = run([0, 12] + as_bytes("columns a ;") + [byte])[0]
            told = chr(byte)
            if told in " \t\n#":
                self.assertEqual(answer, [1, 1, 0, 0])
            elif byte < 128 and told.isalnum() or told in ",:;-":
                self.assertEqual(answer, [0, 3, 11])
            else:
                self.assertEqual(answer, [0, 2, 11])

    def test_2_names_too_long(self):
        self.fault(2, "columns @abcdefghijklmnopq ;")
        self.fault(2, "columns a ; ask @" + "x" * 400 + " ;")
        self.fault(2, "@columnscolumnscolumns a ;")
        self.fault(2, "columns a, @b2345678901234567 ;")

    def test_2_numbers(self):
        for number in ("1000000001", "9999999999", "10000000000", "9" * 400, "01", "00", "007", "01000000001"):
            self.fault(2, "columns a ; row @" + number + " : 1 ;")
            self.fault(2, "columns a ; row 1 : -@" + number + " ;")
            self.fault(2, "columns a ; ask times @" + number + " ;")

    def test_greatest_number_is_a_token(self):
        for number in ("1000000000", "999999999", "10", "1000"):
            self.fault(7, "columns a ; row @" + number + " : 1 ;")
        self.fault(7, "columns a ; row 1 : -@1000000000 ;")
        self.fault(7, "columns a ; ask times @1000000000 ;")

    def test_2_very_long_number(self):
        self.fault(2, "columns a ; row @" + "9" * 4070 + " ;")

    def test_2_comes_ahead_of_what_is_left_of_it(self):
        self.fault(2, "row a a ; @?")
        self.fault(2, "columns a, a ; row 10 : 1001 ; ask b ; row @01 ;")
        self.fault(2, "columns a, b, c, d, e @? ?")

    def test_2_the_first_of_them(self):
        self.fault(2, "columns @$ 01")
        self.fault(2, "columns @01 $")

    def test_2_not_in_a_remark(self):
        self.fault(3, "# ? 01 \n@row")

    def test_3_at_the_beginning(self):
        for text in ("@", " \n@", "# columns a ;@", "@row 1 : 1 ;", "@ask ;", "@a ;", "@Columns a ;", "@; columns a ;"):
            self.fault(3, text)

    def test_3_columns(self):
        for text in ("columns @;", "columns @, a ;", "columns a @b ;", "columns a, @;", "columns a,@, b ;",
                     "columns @1 ;", "columns a @: ;", "columns a @columns b ;", "columns a ; @columns b ;",
                     "columns a ; @; ", "columns a ; @b ;", "columns a ; @1 ;", "columns a ; @times 3 ;"):
            self.fault(3, text)

    def test_3_the_four_words_are_no_names(self):
        for word in ("columns", "row", "ask", "times"):
            self.fault(3, f"columns @{word} ;")
            self.fault(3, f"columns a, @{word} ;")
            self.fault(3, f"columns a ; ask a, @{word} ;")
        for word in ("columns", "row", "ask"):
            self.fault(3, f"columns a ; ask @{word} ;")

    def test_3_rows(self):
        for text in ("row @: 1 ;", "row @, 1 : 1 ;", "row 1 @2 : 1 ;", "row 1 @; ", "row 1 @:",
                     "row 1, 2@, 3 : 1 ;", "row 1, 2 @3 : 1 ;", "row 1, 2 @; ", "row 1, 2 : @;", "row 1, 2 : - @;",
                     "row 1, 2 : -@- 1 ;", "row 1, 2 : 1 @, 2 ;", "row 1, 2 : 1 @row", "row @-1, 2 : 3 ;",
                     "row 1, @-2 : 3 ;", "row 1, @a : 3 ;", "row 1, 2 : @a ;", "row 1, @: 3 ;"):
            self.fault(3, "columns a, b ; " + text)

    def test_3_words_and_numbers_go_as_far_as_they_can(self):
        self.fault(3, "columns a ; @row1 : 2 ;")
        self.fault(3, "columns a ; @aska ;")
        self.fault(3, "columns a ; row 1@a : 2 ;")
        self.fault(3, "columns a ; ask a times 1@times 2 ;")

    def test_3_questions(self):
        for text in ("ask @, a ;", "ask a @b ;", "ask a, @;", "ask a, @times 3 ;", "ask @1 ;", "ask a times @;",
                     "ask a times @a ;", "ask a times 3 @4 ;", "ask a times 3 @times 3 ;", "ask times @- 3 ;",
                     "ask a times 3@, b ;", "ask a @: ;", "ask times @times ;"):
            self.fault(3, "columns a, b ; " + text)

    def test_3_the_text_ends_too_early(self):
        whole = "columns a , b ; row 1 , 2 : - 3 ; ask a , b times 4 ;".split(" ")
        right = (5, 13, len(whole))
        for count in range(len(whole)):
            for end in ("", " ", "\n# remark"):
                if count not in right:
                    self.fault(3, " ".join(whole[:count]) + end + "@")

    def test_4_fifth_column(self):
        self.fault(4, "columns a, b, c, d, @e ;")
        self.fault(4, "columns a, b, c, d, @a ;")
        self.fault(4, "columns a, b, c, d,@e")
        self.fault(3, "columns a, b, c, d, @;")
        self.fault(3, "columns a, b, c, d, @row ;")
        self.fault(3, "columns a, b, c, d,@")
        self.fault(3, "columns a, b, c, d @e ;")

    def test_4_seventeenth_row(self):
        self.fault(4, "columns a ; " + ROW * 16 + "@row 0 : 1 ;")
        self.fault(4, "columns a ; " + ROW * 8 + ASK * 8 + ROW * 8 + "@row ;")
        self.fault(4, "columns a ; " + ROW * 16 + ASK + "@row 10 : 1 ;")

    def test_4_ninth_question(self):
        self.fault(4, "columns a ; " + ASK * 8 + "@ask a ;")
        self.fault(4, "columns a ; " + ASK * 4 + ROW * 16 + ASK * 4 + "@ask b ;")
        self.fault(4, "columns a ; " + "ask ; " * 8 + "@ask")

    def test_5_column_told_before(self):
        self.fault(5, "columns a, @a ;")
        self.fault(5, "columns a, b, c, @a ;")
        self.fault(5, "columns a, b, @b, c, d, e")

    def test_6_twice_in_a_question(self):
        self.fault(6, "columns a, b ; ask a, @a ;")
        self.fault(6, "columns a, b ; ask b, a, @b times 100 ;")
        self.fault(6, "columns a, b, c, d ; ask a, b, c, d, @c ;")
        self.assertEqual(loaded("columns a ; ask a ; ask a ;"), [1, 1, 0, 2])

    def test_7_values(self):
        self.fault(7, "columns a ; row @10 : 1 ;")
        self.fault(7, "columns a, b ; row 9, @10 : 1 ;")
        self.fault(7, "columns a, b ; row @99 ; ")

    def test_7_amounts(self):
        self.fault(7, "columns a ; row 1 : @1001 ;")
        self.fault(7, "columns a ; row 1 : -@1001 ;")
        self.fault(7, "columns a ; row 1 : - @1001 1")

    def test_7_times(self):
        self.fault(7, "columns a ; ask a times @0 ;")
        self.fault(7, "columns a ; ask a times @100 ;")
        self.fault(7, "columns a ; ask times @100 100")

    def test_8_unknown_in_a_question(self):
        self.fault(8, "columns a ; ask @b ;")
        self.fault(8, "columns a ; ask a, @A ;")
        self.fault(8, "columns a, b, c, d ; ask a, b, c, d, @e ;")
        self.fault(8, "columns a ; ask @b, b, a, a times 0 ;")

    def test_the_first_from_left_to_right(self):
        self.fault(7, "columns a ; row @10 : 1001 ; ask b, a, a times 0 ; ;")
        self.fault(8, "columns a ; ask @b, a, a times 0 ; row 10 : 1 ;")
        self.fault(6, "columns a ; ask a, @a, b times 0 ; row 10 : 1 ;")
        self.fault(3, "columns a @a, a ; row 10 : 1 ;")
        self.fault(5, "columns a, @a a ; row 10 : 1 ;")


class WhatIsHeld(unittest.TestCase):
    def test_a_wrong_load_changes_nothing(self):
        wrong = ["", "?", "columns a, a ;", "columns a, b, c, d, e ;", "columns a ; row 10 : 1 ;",
                 "columns a ; ask b ;", "columns a ; ask a, a ;", WORKED + " " * 4096]
        before = run(load(WORKED), terms(3, 7), SHOWN, BEST)
        for text in wrong:
            after = run(load(WORKED), terms(3, 7), load(text), SHOWN, BEST)
            self.assertEqual(after[2][0], 0)
            self.assertEqual(after[3:], before[2:])

    def test_a_wrong_load_brings_no_table(self):
        self.assertEqual(run(load("columns ;"), SHOWN, BEST), [[0, 3, 8], [-1], [-1]])

    def test_a_right_load_brings_the_first_terms(self):
        first = run(load(WORKED), BEST)[1]
        found = run(load(WORKED), terms(3, 1000), BEST, load(WORKED), BEST, terms(3, 0), load(WORKED), BEST)
        self.assertNotEqual(found[2], first)
        self.assertEqual(found[4], first)
        self.assertEqual(found[7], first)

    def test_a_right_load_takes_the_place_of_the_table(self):
        found = run(load(WORKED), BEST, load("columns a ; row 1 : 1 ; ask a ;"), BEST, SHOWN)
        self.assertEqual(found[3], [1, 0, 0])
        self.assertEqual(bytes(found[4][1:]), b"columns a ;\nrow 1 : 1 ;\nask a ;\n")


class AgainstThePlainReckoning(unittest.TestCase):
    SPARE = ["columns", "row", "ask", "times", ",", ":", ";", "-", "city", "kind", "x9", "other", "0", "1", "9", "10",
             "99", "100", "1000", "1001", "01", "?", "1000000001", "abcdefghijklmnopq", "# r\n", ""]

    def spoiled(self, chance, tokens):
        tokens = list(tokens)
        for _ in range(chance.one_of([0, 1, 1, 1, 2, 3])):
            place = chance.below(len(tokens))
            way = chance.below(4)
            if way == 0:
                tokens[place] = chance.one_of(self.SPARE)
            elif way == 1:
                tokens.insert(place, chance.one_of(self.SPARE))
            elif way == 2:
                tokens[place:place + chance.between(1, 3)] = []
                tokens.append(";")
            else:
                tokens[place], tokens[-1] = tokens[-1], tokens[place]
        return chance.one_of([" ", " ", "\n", "#x\n"]).join(tokens)

    def test_spoiled_texts(self):
        seen = set()
        for seed in range(6000):
            chance = Chance(seed)
            text = self.spoiled(chance, made_up(chance, chance.between(1, 4), 17, 9).tokens())
            if chance.below(10) == 0:
                text = text[:chance.below(len(text) + 1)]
            expected, table = plain_load(as_bytes(text))
            if table is None:
                self.assertEqual(loaded(text), expected, text)
            else:
                found = run(load(text), SHOWN)
                self.assertEqual(found[0], expected, text)
                self.assertEqual(bytes(found[1][1:]).decode(), table.form(), text)
            seen.add(tuple(expected[:2]) if expected[0] == 0 else 1)
        self.assertEqual(seen, {1} | {(0, code) for code in range(2, 9)})


if __name__ == "__main__":
    unittest.main()
