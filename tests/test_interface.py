"""The interface: names and arguments, what is given back, and that nothing else is done."""

import contextlib
import copy
import inspect
import io
import subprocess
import sys
import unittest

import eightcalendars.days

# The names of each function's arguments, in order.
ARGUMENTS = {
    "day": ["kind", "y", "m", "d"],
    "date": ["kind", "day"],
    "convert": ["kind", "y", "m", "d", "to"],
    "weekday": ["day"],
    "easter": ["which", "year"],
    "add": ["kind", "y", "m", "d", "n"],
    "between": ["kind", "a", "b"],
    "nth": ["kind", "y", "m", "w", "n"],
    "tell": ["style", "day"],
    "read": ["text"],
}

# Calls of each function, and what each gives back: at least one that is met and one that is refused.
CALLS = [
    ("day", [0, 1, 1, 2], [0, 2]),
    ("day", [2, 5784, 6, 30], [0, 738955]),
    ("day", [2, 5785, 13, 1], [-1]),
    ("date", [0, 2], [0, 1, 1, 2]),
    ("date", [2, 738886], [0, 5784, 4, 20]),
    ("date", [8, 1], [-1]),
    ("convert", [2, 5784, 6, 30, 0], [0, 2024, 3, 10]),
    ("convert", [2, 5784, 6, 30, 8], [-1]),
    ("weekday", [738955], [7]),
    ("weekday", [700000000001], [-1]),
    ("easter", [0, 2024], [0, 738976]),
    ("easter", [1, 2024], [0, 739011]),
    ("easter", [2, 2024], [-1]),
    ("add", [0, 2024, 1, 31, 1], [0, 2024, 2, 29]),
    ("add", [2, 5784, 13, 29, 1], [0, 5785, 1, 29]),
    ("add", [0, 2024, 1, 31, 120001], [-1]),
    ("between", [0, 738916, 738946], [0, 1, 1]),
    ("between", [0, 738946, 738916], [-1]),
    ("nth", [0, 2024, 11, 4, 4], [0, 739218]),
    ("nth", [0, 2024, 11, 4, 5], [-1]),
    ("tell", [1, 738955], [8, 50, 48, 50, 52, 45, 48, 55, 48]),
    ("tell", [3, 738955], [-1]),
    ("read", [[50, 48, 50, 52, 45, 48, 55, 48]], [0, 738955]),
    ("read", [[50, 48, 50, 52, 45, 48, 55]], [-1]),
]

LIST_IMPORTS = (
    "import sys; before = set(sys.modules); import eightcalendars.days; print(*sorted(set(sys.modules) - before))"
)


def answer(name, values):
    return getattr(eightcalendars.days, name)(*values)


class Interface(unittest.TestCase):
    def test_names_of_arguments(self):
        for name, arguments in ARGUMENTS.items():
            function = getattr(eightcalendars.days, name)
            self.assertEqual(list(inspect.signature(function).parameters), arguments, name)

    def test_every_function_is_called(self):
        for name in ARGUMENTS:
            self.assertIn([-1], [expected for called, values, expected in CALLS if called == name], name)
            self.assertNotEqual([-1], [expected for called, values, expected in CALLS if called == name][0], name)

    def test_arguments_in_order(self):
        for name, values, expected in CALLS:
            self.assertEqual(answer(name, values), expected, (name, values))

    def test_arguments_by_name(self):
        for name, values, expected in CALLS:
            named = dict(reversed(list(zip(ARGUMENTS[name], values))))
            self.assertEqual(getattr(eightcalendars.days, name)(**named), expected, (name, values))

    def test_lists_of_whole_numbers(self):
        for name, values, expected in CALLS:
            given = answer(name, values)
            self.assertIs(type(given), list, (name, values))
            for number in given:
                self.assertIs(type(number), int, (name, values))

    def test_nothing_is_kept(self):
        for name, values, expected in CALLS:
            # Were the answer kept, the next one would have this in it.
            answer(name, values).append(99)
        for name, values, expected in reversed(CALLS):
            self.assertEqual(answer(name, values), expected, (name, values))

    def test_what_is_handed_in_is_not_changed(self):
        for name, values, expected in CALLS:
            handed = copy.deepcopy(values)
            answer(name, handed)
            self.assertEqual(handed, values, name)

    def test_nothing_is_printed(self):
        printed = io.StringIO()
        with contextlib.redirect_stdout(printed), contextlib.redirect_stderr(printed):
            for name, values, expected in CALLS:
                answer(name, values)
        self.assertEqual(printed.getvalue(), "")

    def test_nothing_is_imported(self):
        found = subprocess.run([sys.executable, "-c", LIST_IMPORTS], capture_output=True, text=True, check=True)
        self.assertEqual(found.stdout.split(), ["eightcalendars", "eightcalendars.days"])


if __name__ == "__main__":
    unittest.main()
