"""The form of calls and answers, and that nothing is kept or changed beside the object."""

import unittest

from slipstell.desk import answers
from talk import (
    BEGIN, NO_LETTERS, NONE_SUCH, RUN, RUN_LINES, RUN_WRITTEN, TOO_GREAT, WRITE, cost, nth, read, row_told, rows,
    rows_told, slip_lines, told, wrote,
)

ROW_CALLS = cost(b"hti", b"the") + nth(1, b"thi") + rows(b"th") + nth(64, b"") + cost(b" ", b"") + rows(b"a" * 25)


class Untouched(list):
    """A list that may be read alone."""

    def refuse(self, *arguments, **more):
        raise AssertionError("what was handed in is changed")

    append = extend = insert = pop = remove = clear = sort = reverse = refuse
    __setitem__ = __delitem__ = __iadd__ = __imul__ = refuse


class Form(unittest.TestCase):
    def test_no_calls_no_answers(self):
        self.assertEqual(answers([]), [])

    def test_begin_alone(self):
        self.assertEqual(answers([1]), [1, 0])

    def test_write_of_a_new_object(self):
        self.assertEqual(answers([3]), [1, 0])

    def test_read_has_its_count_ahead(self):
        self.assertEqual(answers([2, 0]), [1, 0])
        self.assertEqual(answers([2, 7] + list(b"30 e i\n")), [1, 1])

    def test_fault_has_its_count_ahead(self):
        self.assertEqual(answers([2, 1, 10]), [3, -2, 0, 1])

    def test_written_bytes_have_their_count_ahead(self):
        calls = [2, 7] + list(b"30 e i\n") + [3]
        self.assertEqual(answers(calls), [1, 1, 8, 7] + list(b"30 e i\n"))

    def test_calls_one_behind_another(self):
        calls = [3, 2, 7] + list(b"30 e i\n") + [3, 2, 2, 51, 10, 1, 3, 2, 0]
        expected = [1, 0, 1, 1, 8, 7] + list(b"30 e i\n") + [3, -2, 0, 1, 1, 0, 1, 0, 1, 0]
        self.assertEqual(answers(calls), expected)

    def test_cost_has_its_count_ahead(self):
        self.assertEqual(answers([4, 0, 0]), [1, 0])
        self.assertEqual(answers([4, 1, 97, 1, 98]), [1, -5])
        self.assertEqual(answers([2, 6] + list(b"9 a b\n") + [4, 1, 97, 1, 98]), [1, 1, 1, 9])

    def test_nth_has_its_count_ahead_and_its_cost_behind_its_length(self):
        self.assertEqual(answers([5, 0, 0]), [2, 0, 0])
        self.assertEqual(answers([5, 0, 2, 97, 98]), [4, 2, 0, 97, 98])
        self.assertEqual(answers([5, 1, 2, 97, 98]), [1, -5])
        self.assertEqual(answers([2, 7] + list(b"9 a bc\n") + [5, 1, 1, 97]), [1, 1, 4, 2, 9, 98, 99])

    def test_all_has_its_count_ahead_and_each_cost_ahead_of_its_length(self):
        self.assertEqual(answers([6, 0]), [3, 1, 0, 0])
        self.assertEqual(answers([6, 2, 97, 98]), [5, 1, 0, 2, 97, 98])
        given = answers([2, 12] + list(b"9 a bc\n7 a \n") + [6, 1, 97])
        self.assertEqual(given, [1, 2, 10, 3, 0, 1, 97, 7, 0, 9, 2, 98, 99])

    def test_a_refusal_is_its_number_alone(self):
        calls = [4, 0, 34] + [97] * 34 + [5, 64, 0, 6, 1, 32, 5, 1, 0]
        self.assertEqual(answers(calls), [1, -1, 1, -1, 1, -3, 1, -5])

    def test_letters_of_a_refused_call_are_no_calls(self):
        self.assertEqual(told(rows([1] * 100), cost([3, 3], [6] * 100), nth(60000, [2, 1, 1]), BEGIN), [
            TOO_GREAT, TOO_GREAT, TOO_GREAT, [0],
        ])
        self.assertEqual(told(rows([1]), cost([3, 3], [6]), nth(2, [2, 1, 1]), BEGIN), [
            NO_LETTERS, NO_LETTERS, NO_LETTERS, [0],
        ])

    def test_the_typed_row_stands_ahead_of_the_row_meant(self):
        self.assertEqual(told(read(b"5 ab c\n"), cost(b"ab", b"c"), cost(b"c", b"ab")), [[1], [5], NONE_SUCH])

    def test_bytes_that_are_numbers_of_calls_are_no_calls(self):
        self.assertEqual(told(read([1, 2, 3]), BEGIN), [[-2, 0, 1], [0]])

    def test_three_hundred_calls(self):
        calls = [BEGIN, read(b"5 a b\n"), WRITE] * 100
        self.assertEqual(told(*calls), [[0], [1], wrote(b"5 a b\n")] * 100)

    def test_answers_are_whole_numbers_in_a_list(self):
        calls = [1] + read(b"".join(RUN_LINES)) + [3] + read(b"5 a a\n") + ROW_CALLS
        given = answers(calls)
        self.assertIs(type(given), list)
        self.assertEqual({type(number) for number in given}, {int})


class Kept(unittest.TestCase):
    def test_what_is_handed_in_stays_as_it_is(self):
        calls = [1] + read(b"".join(RUN_LINES)) + [3] + read(b"5 a a\n") + ROW_CALLS + read(b"") + [3]
        before = list(calls)
        answers(calls)
        self.assertEqual(calls, before)

    def test_what_is_handed_in_is_not_changed_for_a_while_either(self):
        calls = Untouched([1] + read(b"".join(RUN_LINES)) + [3] + read(b"5 a a\n") + ROW_CALLS + [3])
        self.assertEqual(answers(calls), answers(list(calls)))

    def test_answers_keeps_nothing_from_the_first_time(self):
        text = b"".join(RUN_LINES)
        self.assertEqual(told(read(text), WRITE), [[5], wrote(RUN_WRITTEN)])
        self.assertEqual(told(WRITE), [[0]])
        self.assertEqual(told(read(text), WRITE), [[5], wrote(RUN_WRITTEN)])

    def test_nothing_is_kept_of_a_row_asked_before(self):
        calls = [rows(b"thi"), nth(1, b"thi"), cost(b"thi", b"the")]
        first = told(read(RUN), *calls)
        self.assertEqual(first[2:], [row_told(45, b"the"), [45]])
        self.assertEqual(told(*calls), [rows_told((0, b"thi")), NONE_SUCH, NONE_SUCH])
        self.assertEqual(told(read(b"7 i e\n"), *calls), [
            [1], rows_told((0, b"thi"), (7, b"the")), row_told(7, b"the"), [7],
        ])
        self.assertEqual(told(read(RUN), *calls), first)

    def test_what_is_given_back_is_another_list_each_time(self):
        calls = [2, 7] + list(b"30 e i\n") + [3]
        first = answers(calls)
        expected = list(first)
        first.clear()
        self.assertEqual(answers(calls), expected)


class Mixed(unittest.TestCase):
    def test_all_six_calls_on_one_object(self):
        calls = [
            rows(b"ab"), read(b"9 a b\n"), rows(b"ab"), cost(b"ab", b"bb"), nth(1, b"ab"), read(b"9 a a\n"),
            cost(b"ab", b"bb"), WRITE, read(b"4 b \n6  c\n"), rows(b"b"), nth(1, b"ab"), cost(b"ab", b"bb"), WRITE,
            nth(64, b"ab"), rows(b" "), nth(3, b"bb"), BEGIN, cost(b"ab", b"a"), nth(1, b"ab"), rows(b"ab"), WRITE,
            read(b"9 a b\n"), nth(1, b"ab"),
        ]
        without_b = [(4, b""), (6, b"bc"), (6, b"cb"), (10, b"c"), (12, b"bcc"), (12, b"cbc"), (12, b"ccb")]
        thrice = [(16, b"cc"), (18, b"bccc"), (18, b"cbcc"), (18, b"ccbc"), (18, b"cccb")]
        self.assertEqual(told(*calls), [
            rows_told((0, b"ab")), [1], rows_told((0, b"ab"), (9, b"bb")), [9], row_told(9, b"bb"), [-2, 0, 3],
            [9], wrote(b"9 a b\n"), [2], rows_told((0, b"b"), *without_b, *thrice), row_told(4, b"a"), NONE_SUCH,
            wrote(b"6  c\n4 b \n"),
            TOO_GREAT, NO_LETTERS, row_told(6, b"bcb"), [0], NONE_SUCH, NONE_SUCH, rows_told((0, b"ab")), [0],
            [1], row_told(9, b"bb"),
        ])

    def test_calls_that_ask_change_nothing(self):
        asking = [rows(b"thi"), nth(5, b"hti"), cost(b"thi", b"the"), WRITE]
        once = told(read(RUN), *asking)
        self.assertEqual(told(read(RUN), *(asking * 5)), once[:1] + once[1:] * 5)

    def test_three_hundred_calls_of_all_six(self):
        asking = [rows(b"th"), nth(1, b"th"), cost(b"th", b"the"), WRITE]
        with_table = told(read(RUN), *asking)
        without = told(BEGIN, *asking)
        calls = [read(RUN)] + asking + [BEGIN] + asking
        self.assertEqual(told(*(calls * 30)), (with_table + without) * 30)


class Begin(unittest.TestCase):
    def test_begin_drops_the_table(self):
        self.assertEqual(told(read(RUN_WRITTEN), BEGIN, WRITE), [[5], [0], [0]])

    def test_begin_twice(self):
        self.assertEqual(told(BEGIN, BEGIN, WRITE), [[0], [0], [0]])

    def test_read_behind_begin_knows_no_line_of_the_old_table(self):
        full = b"".join(slip_lines(32))
        self.assertEqual(told(read(full), BEGIN, read(b"1 A aa\n"), WRITE), [[32], [0], [1], wrote(b"1 A aa\n")])


if __name__ == "__main__":
    unittest.main()
