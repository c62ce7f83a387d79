"""The form of calls and answers, and that nothing is kept or changed beside the object."""

import unittest

from slipstell.desk import answers
from talk import BEGIN, RUN_LINES, RUN_WRITTEN, WRITE, read, slip_lines, told, wrote


class Untouched(list):
    """A list that may be read alone."""

    def refuse(self, *arguments, **more):
        raise AssertionError("what was handed in is changed")

    append = extend = insert = pop = remove = clear = sort = reverse = refuse
    __setitem__ = __delitem__ = __iadd__ = __imul__ = refuse


class Form(unittest.TestCase):
    def test_no_calls_no_answers(self):
        self.assertEqual(answers([]), [])

    def test_begin_alone(self):
        self.assertEqual(answers([1]), [1, 0])

    def test_write_of_a_new_object(self):
        self.assertEqual(answers([3]), [1, 0])

    def test_read_has_its_count_ahead(self):
        self.assertEqual(answers([2, 0]), [1, 0])
        self.assertEqual(answers([2, 7] + list(b"30 e i\n")), [1, 1])

    def test_fault_has_its_count_ahead(self):
        self.assertEqual(answers([2, 1, 10]), [3, -2, 0, 1])

    def test_written_bytes_have_their_count_ahead(self):
        calls = [2, 7] + list(b"30 e i\n") + [3]
        self.assertEqual(answers(calls), [1, 1, 8, 7] + list(b"30 e i\n"))

    def test_calls_one_behind_another(self):
        calls = [3, 2, 7] + list(b"30 e i\n") + [3, 2, 2, 51, 10, 1, 3, 2, 0]
        expected = [1, 0, 1, 1, 8, 7] + list(b"30 e i\n") + [3, -2, 0, 1, 1, 0, 1, 0, 1, 0]
        self.assertEqual(answers(calls), expected)

    def test_bytes_that_are_numbers_of_calls_are_no_calls(self):
        self.assertEqual(told(read([1, 2, 3]), BEGIN), [[-2, 0, 1], [0]])

    def test_three_hundred_calls(self):
        calls = [BEGIN, read(b"5 a b\n"), WRITE] * 100
        self.assertEqual(told(*calls), [[0], [1], wrote(b"5 a b\n")] * 100)

    def test_answers_are_whole_numbers_in_a_list(self):
        calls = [1] + read(b"".join(RUN_LINES)) + [3] + read(b"5 a a\n")
        given = answers(calls)
        self.assertIs(type(given), list)
        self.assertEqual({type(number) for number in given}, {int})


class Kept(unittest.TestCase):
    def test_what_is_handed_in_stays_as_it_is(self):
        calls = [1] + read(b"".join(RUN_LINES)) + [3] + read(b"5 a a\n") + read(b"") + [3]
        before = list(calls)
        answers(calls)
        self.assertEqual(calls, before)

    def test_what_is_handed_in_is_not_changed_for_a_while_either(self):
        calls = Untouched([1] + read(b"".join(RUN_LINES)) + [3] + read(b"5 a a\n") + [3])
        self.assertEqual(answers(calls), answers(list(calls)))

    def test_answers_keeps_nothing_from_the_first_time(self):
        text = b"".join(RUN_LINES)
        self.assertEqual(told(read(text), WRITE), [[5], wrote(RUN_WRITTEN)])
        self.assertEqual(told(WRITE), [[0]])
        self.assertEqual(told(read(text), WRITE), [[5], wrote(RUN_WRITTEN)])

    def test_what_is_given_back_is_another_list_each_time(self):
        calls = [2, 7] + list(b"30 e i\n") + [3]
        first = answers(calls)
        expected = list(first)
        first.clear()
        self.assertEqual(answers(calls), expected)


class Begin(unittest.TestCase):
    def test_begin_drops_the_table(self):
        self.assertEqual(told(read(RUN_WRITTEN), BEGIN, WRITE), [[5], [0], [0]])

    def test_begin_twice(self):
        self.assertEqual(told(BEGIN, BEGIN, WRITE), [[0], [0], [0]])

    def test_read_behind_begin_knows_no_line_of_the_old_table(self):
        full = b"".join(slip_lines(32))
        self.assertEqual(told(read(full), BEGIN, read(b"1 A aa\n"), WRITE), [[32], [0], [1], wrote(b"1 A aa\n")])


if __name__ == "__main__":
    unittest.main()
