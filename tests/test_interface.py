"""The interface: names and arguments, what is given back, and that nothing else is done."""

import contextlib
import inspect
import io
import unittest

import oracle
import eightcalendars.days


class Interface(unittest.TestCase):
    def test_names_of_arguments(self):
        for name, arguments in (("day", ["kind", "y", "m", "d"]), ("date", ["kind", "day"])):
            function = getattr(eightcalendars.days, name)
            self.assertEqual(list(inspect.signature(function).parameters), arguments)

    def test_arguments_by_name(self):
        self.assertEqual(eightcalendars.days.day(d=2, m=1, y=1, kind=0), [0, 2])
        self.assertEqual(eightcalendars.days.date(day=2, kind=0), [0, 1, 1, 2])

    def check_whole_numbers(self, answer):
        self.assertIs(type(answer), list)
        for number in answer:
            self.assertIs(type(number), int)

    def test_lists_of_whole_numbers(self):
        for kind in range(-1, 9):
            for d in (0, 1):
                self.check_whole_numbers(eightcalendars.days.day(kind, 5, 1, d))
            for number in (0, oracle.HIGHEST_DAY + 1):
                self.check_whole_numbers(eightcalendars.days.date(kind, number))

    def test_nothing_is_kept(self):
        calls = [lambda: eightcalendars.days.day(2, 5784, 6, 30), lambda: eightcalendars.days.day(2, 5785, 13, 1),
                 lambda: eightcalendars.days.date(2, 738886), lambda: eightcalendars.days.date(8, 1)]
        first = []
        for call in calls:
            answer = call()
            first.append(list(answer))
            # Were the answer kept, the next one would have this in it.
            answer.append(99)
        self.assertEqual([call() for call in calls], first)
        self.assertEqual([call() for call in reversed(calls)], first[::-1])

    def test_nothing_is_printed(self):
        printed = io.StringIO()
        with contextlib.redirect_stdout(printed), contextlib.redirect_stderr(printed):
            for kind in range(-1, 9):
                eightcalendars.days.day(kind, 5, 1, 1)
                eightcalendars.days.date(kind, 5)
        self.assertEqual(printed.getvalue(), "")


if __name__ == "__main__":
    unittest.main()
