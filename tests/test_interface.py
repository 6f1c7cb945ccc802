"""How calls and answers stand in their lists, and that nothing is kept or changed."""

import unittest

from axiomparts.desk import answers
from tests.helper import (EXAMPLE_AXIOMS, LARGEST, ask, begins, by, drop, flat, line, lines, part, parts, quiet, under,
                          words)


class Lists(unittest.TestCase):
    def test_each_call_alone(self):
        self.assertEqual(answers([0]), [1, 0])
        self.assertEqual(answers([1, 2, 0, 1]), [1, 0])
        self.assertEqual(answers([1, 1, 2]), [1, -1])
        self.assertEqual(answers([2, 0]), [1, -2])
        self.assertEqual(answers([3, 7, 7, 1, 3, 2, 0, 2, 3]), [3, 0, 9, 2])
        self.assertEqual(answers([3, 0]), [1, -1])
        self.assertEqual(answers([4, 0, 0, 0]), [1, -2])
        self.assertEqual(answers([5, 9, 2]), [3, 0, 9, 2])
        self.assertEqual(answers([5, 16, 0]), [1, -1])
        self.assertEqual(answers([6, 4, 2, 0, 2, 0]), [1, 1])
        self.assertEqual(answers([6, 3, 0, 2, 0]), [1, 0])
        self.assertEqual(answers([6, 0]), [1, -1])
        self.assertEqual(answers([7, 3, 2, 0, 0]), [1, 0])
        self.assertEqual(answers([7, 1, 2]), [1, -1])
        self.assertEqual(answers([8]), [5, 4, 0, 0, 0, 0])

    def test_calls_one_behind_another(self):
        calls = [1, 2, 1, 0, 4, 0, 15, 3, 3, 2, 2, 1, 1, 0, 2, 0, 0]
        self.assertEqual(answers(calls), [1, 0, 1, 1, 3, 0, 2, 0, 1, -1, 1, 0, 1, 0])

    def test_how_the_numbers_of_a_module_stand(self):
        known = flat(lines(EXAMPLE_AXIOMS))
        given = [1, 0, 1, 1, 1, 2, 1, 3, 1, 4]
        self.assertEqual(answers(known + [5, 1, 0]), given + [7, 4, 15, 1, 0, 1, 2, 4])
        self.assertEqual(answers(known + [7, 3, 2, 0, 0]), given + [5, 4, 0, 1, 2, 4])
        self.assertEqual(answers(known + [6, 5, 2, 3, 6, 0, 0]), given + [1, 1])
        self.assertEqual(answers(known + [8]), given + [21, 4, 4, 0, 1, 2, 4, 4, 0, 1, 2, 4, 4, 0, 1, 2, 4, 4, 0, 1, 2, 4])
        without_last = answers(known + [2, 4, 8, 5, 2, 0])
        self.assertEqual(without_last, given + [1, 4, 11, 4, 2, 0, 1, 1, 1, 0, 3, 0, 1, 2, 4, 1, 6, 1, 1])

    def test_calls_of_all_sorts_one_behind_another(self):
        calls = [8, 1, 4, 2, 0, 2, 1, 5, 1, 0, 6, 4, 2, 0, 2, 1, 7, 3, 2, 0, 0, 4, 0, 1, 0, 8, 2, 0, 8, 0, 3, 1, 0]
        told = [[4, 0, 0, 0, 0], [0], [1, 3, 0, 0], [1], [1, 0], [0], [4, 1, 0, 0, 0, 0], [0], [4, 0, 0, 0, 0], [0],
                [0, 0, 0]]
        self.assertEqual(answers(calls), flat([[len(result)] + result for result in told]))

    def test_an_error_is_the_negative_number_alone(self):
        self.assertEqual(answers(words(2, 4)), [1, -1])
        self.assertEqual(answers(quiet(0, 16, 4)), [1, -2])
        self.assertEqual(answers(part(16, 4)), [1, -1])
        self.assertEqual(answers(by(2, 4)), [1, -1])
        self.assertEqual(answers(under(*(6, 0) * 7, 0, 1)), [1, -7])

    def test_answers_are_plain_whole_numbers(self):
        calls = lines(EXAMPLE_AXIOMS) + [quiet(0, 1, 0), quiet(0, 2, 0), words(7, 1, 2, 3), drop(1), drop(9), begins(),
                                         line(2, 0, 2, 1), part(1, 0), under(2, 0, 2, 1), under(2, 1, 2, 0),
                                         by(2, 0, 0), parts()]
        given = answers(flat(calls))
        self.assertIs(type(given), list)
        self.assertEqual({type(number) for number in given}, {int})


class NothingKept(unittest.TestCase):
    def test_a_second_time_begins_anew(self):
        first = flat([line(2, 0, 2, 1), line(2, 1, 2, 2), quiet(0, 1, 0)])
        self.assertEqual(answers(first), [1, 0, 1, 1, 1, 0])
        self.assertEqual(answers(quiet(0, 1, 0)), [1, -2])
        self.assertEqual(answers(drop(0)), [1, -2])
        self.assertEqual(answers(part(1, 0)), [3, 0, 1, 0])
        self.assertEqual(answers(under(2, 0, 2, 1)), [1, 0])
        self.assertEqual(answers(by(2, 0, 2, 1)), [1, 0])
        self.assertEqual(answers(parts()), [5, 4, 0, 0, 0, 0])
        self.assertEqual(answers(first), [1, 0, 1, 1, 1, 0])

    def test_what_is_given_back_is_a_new_list(self):
        calls = words(2, 1)
        given = answers(calls)
        given.append(7)
        self.assertEqual(answers(calls), [3, 0, 2, 0])
        calls = flat([line(2, 0, 2, 1), part(1, 0), by(2, 0, 0), parts()])
        given = answers(calls)
        told = list(given)
        given.clear()
        self.assertEqual(answers(calls), told)

    def test_a_later_change_of_the_list_changes_nothing_given_back(self):
        calls = words(2, 1)
        given = answers(calls)
        calls[3] = 3
        self.assertEqual(given, [3, 0, 2, 0])
        self.assertEqual(answers(calls), [3, 0, 8, 0])


class Watched(list):
    """A list that refuses every change, so that none is made for a while either."""

    def refuse(self, *handed, **named):
        raise AssertionError("the list that was handed in is changed")

    __setitem__ = __delitem__ = __iadd__ = __imul__ = refuse
    append = extend = insert = pop = remove = clear = sort = reverse = refuse


class NothingChanged(unittest.TestCase):
    def test_what_is_handed_in_stays_as_it_was(self):
        calls = flat(lines(EXAMPLE_AXIOMS) + [
            quiet(0, 1, 0), quiet(4, 16, 0), drop(4), drop(LARGEST), words(7, 1, 3, 2, 0, 2, 3),
            line(2), line(6, 0, 6, 1, 2, 0, 1), part(1, 0), part(16, 0), under(2, 3, 6, 0, 0), under(2), by(2, 0, 0),
            by(0), parts(), begins(), quiet(0, 0, 0), under(2, 0, 0), parts()])
        watched = Watched(calls)
        given = answers(watched)
        self.assertEqual(list(watched), calls)
        self.assertEqual(given, answers(list(calls)))


class ErrorsChangeNothing(unittest.TestCase):
    def setUp(self):
        self.wrong = [
            line(), line(2), line(2, 0), line(2, 0, 2), line(0, 0, 0), line(8, 0), line(2, 4, 0), line(6, 2, 0, 0),
            line(3, 2, 0, 2, 1, 3, 2, 2, 6, 0, 0, 2, 3, 0), line(6, 0, 6, 0, 6, 0, 6, 0, 2, 0, 0),
            drop(3), drop(LARGEST), words(), words(2), words(0, 0), words(2, 4),
            quiet(3, 0, 0), quiet(0, 16, 0), quiet(0, 0, 4), quiet(LARGEST, LARGEST, LARGEST)]
        self.axioms = [(2, 0, 2, 1), (6, 0, 2, 1, 2, 2), (0, 4, 2, 3, 5, 2, 3)]
        self.asked = [quiet(index, names, 1) for index in range(3) for names in (1, 2, 15)]
        self.told = [[0], [1], [0], [1], [0], [0], [1], [1], [1]]

    def test_all_wrong_calls_are_refused(self):
        results = ask(*lines(self.axioms), *self.wrong)[3:]
        for call, result in zip(self.wrong, results):
            with self.subTest(call=call):
                self.assertEqual(len(result), 1)
                self.assertLess(result[0], 0)

    def test_the_axioms_are_as_they_were_behind_each_error(self):
        for call in self.wrong:
            with self.subTest(call=call):
                results = ask(*lines(self.axioms), call, *self.asked, line(0, 1), drop(0), quiet(0, 2, 1))
                self.assertEqual(results[4:13], self.told)
                self.assertEqual(results[13:], [[3], [3], [0]])

    def test_the_axioms_are_as_they_were_behind_a_refused_ninth(self):
        axioms = [(2, mark, 1) for mark in (0, 1, 2, 3)] + [(0, 2, mark) for mark in (0, 1, 2, 3)]
        asked = [quiet(index, 5, 0) for index in range(8)]
        results = ask(*lines(axioms), line(0, 0), *asked, drop(7), line(0, 0), quiet(7, 0, 0))
        self.assertEqual(results[8], [-7])
        self.assertEqual(results[9:17], [[0], [1], [0], [1], [0], [0], [0], [0]])
        self.assertEqual(results[17:], [[7], [7], [1]])


if __name__ == "__main__":
    unittest.main()
