"""What rows may have meant: the run of the document, a table without slips, and what would be wrong."""

import unittest

from talk import BEGIN, NONE_SUCH, RUN, WRITE, asked, cost, nth, read, row_told, rows, rows_told, told, wrote

THI = [
    (0, b"thi"), (45, b"the"), (50, b"ethi"), (50, b"tehi"), (50, b"thei"), (50, b"thie"),
    (95, b"ethe"), (95, b"tehe"), (95, b"thee"),
]
# Behind the rows that the document shows: two e put in, then three, with i meant as e or not.
THI_BEHIND = [
    (100, b"eethi"), (100, b"etehi"), (100, b"ethei"), (100, b"ethie"), (100, b"teehi"), (100, b"tehei"),
    (100, b"tehie"), (100, b"theei"), (100, b"theie"), (100, b"thiee"),
    (145, b"eethe"), (145, b"etehe"), (145, b"ethee"), (145, b"teehe"), (145, b"tehee"), (145, b"theee"),
    (150, b"eeethi"), (150, b"eetehi"), (150, b"eethei"), (150, b"eethie"), (150, b"eteehi"), (150, b"etehei"),
    (150, b"etehie"), (150, b"etheei"), (150, b"etheie"), (150, b"ethiee"), (150, b"teeehi"), (150, b"teehei"),
    (150, b"teehie"), (150, b"teheei"), (150, b"teheie"), (150, b"tehiee"), (150, b"theeei"), (150, b"theeie"),
    (150, b"theiee"), (150, b"thieee"),
]
HTI = [
    (0, b"hti"), (40, b"thi"), (45, b"hte"), (50, b"ehti"), (50, b"heti"), (50, b"htei"), (50, b"htie"), (85, b"the"),
]
RUN_COSTS = [
    (b"thi", b"the", 45), (b"hti", b"the", 85), (b"ths", b"the", 110), (b"t", b"teee", 150),
]


class Run(unittest.TestCase):
    def assert_by_nth(self, typed, expected):
        calls = [nth(number, typed) for number in range(len(expected))]
        self.assertEqual(told(read(RUN), *calls)[1:], [row_told(*row) for row in expected])

    def test_thi_by_nth(self):
        self.assert_by_nth(b"thi", THI + THI_BEHIND)

    def test_hti_by_nth(self):
        self.assert_by_nth(b"hti", HTI)

    def test_thi_by_all(self):
        self.assertEqual(told(read(RUN), rows(b"thi")), [[5], rows_told(*(THI + THI_BEHIND))])

    def test_thi_has_no_row_behind_the_last(self):
        many = len(THI + THI_BEHIND)
        self.assertEqual(told(read(RUN), nth(many, b"thi"), nth(63, b"thi"))[1:], [NONE_SUCH, NONE_SUCH])

    def test_hti_by_all(self):
        answer = told(read(RUN), rows(b"hti"))[1]
        shown = rows_told(*HTI)
        self.assertEqual(answer[1:len(shown)], shown[1:])
        self.assertGreater(answer[0], len(HTI))

    def test_costs(self):
        for typed, meant, expected in RUN_COSTS:
            with self.subTest(typed=typed, meant=meant):
                self.assertEqual(told(read(RUN), cost(typed, meant)), [[5], [expected]])

    def test_a_row_that_four_slips_would_mean_has_no_cost(self):
        self.assertEqual(told(read(RUN), cost(b"t", b"teeee")), [[5], NONE_SUCH])

    def test_the_cost_of_each_row_told(self):
        calls = [cost(b"thi", letters) for told_cost, letters in THI + THI_BEHIND]
        expected = [[told_cost] for told_cost, letters in THI + THI_BEHIND]
        self.assertEqual(told(read(RUN), *calls)[1:], expected)


class NoSlips(unittest.TestCase):
    CALLS = [
        nth(0, b"thi"), nth(1, b"thi"), nth(63, b"thi"), rows(b"thi"), cost(b"thi", b"thi"), cost(b"thi", b"the"),
        cost(b"thi", b"th"), cost(b"thi", b"thii"), cost(b"thi", b""), cost(b"", b"t"), cost(b"", b""), rows(b""),
        nth(0, b""), nth(1, b""),
    ]
    ANSWERS = [
        row_told(0, b"thi"), NONE_SUCH, NONE_SUCH, rows_told((0, b"thi")), [0], NONE_SUCH,
        NONE_SUCH, NONE_SUCH, NONE_SUCH, NONE_SUCH, [0], rows_told((0, b"")),
        row_told(0, b""), NONE_SUCH,
    ]

    def test_a_new_object(self):
        self.assertEqual(told(*self.CALLS), self.ANSWERS)

    def test_an_object_behind_begin(self):
        self.assertEqual(told(read(RUN), BEGIN, *self.CALLS), [[5], [0]] + self.ANSWERS)

    def test_an_object_behind_the_read_of_an_empty_text(self):
        self.assertEqual(told(read(RUN), read(b""), *self.CALLS), [[5], [0]] + self.ANSWERS)

    def test_a_table_whose_letters_typed_stand_nowhere(self):
        slips = {(b"x", b"y"): 1, (b"hix", b"hi"): 2, (b"ih", b"hi"): 3, (b"tt", b"t"): 4}
        self.assertEqual(asked(slips, *self.CALLS), self.ANSWERS)


class Written(unittest.TestCase):
    def test_the_text_written_tells_the_same_rows(self):
        first = told(read(RUN), WRITE, rows(b"hti"))
        again = told(read(bytes(first[1][1:])), WRITE, rows(b"hti"))
        self.assertEqual(again, first)


if __name__ == "__main__":
    unittest.main()
