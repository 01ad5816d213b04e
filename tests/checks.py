"""Checks that the tests of several modules share."""

import copy
import inspect


class Checks:
    """What a test case gets beside unittest.TestCase."""

    def check_interface(self, module, expected):
        """Check that functions are defined in a module with just these arguments."""
        for name, arguments in expected.items():
            with self.subTest(name=name):
                found = getattr(module, name)
                self.assertEqual(found.__module__, module.__name__)
                self.assertEqual(list(inspect.signature(found).parameters), arguments)

    def check_raises(self, expected, function, *arguments):
        """Check that just this exception is raised, and that the arguments stay as they were."""
        before = copy.deepcopy(arguments)
        with self.subTest(function=function.__name__, expected=expected.__name__):
            with self.assertRaises(expected) as caught:
                function(*arguments)
            self.assertIs(type(caught.exception), expected)
            self.assertEqual(arguments, before)

    def check_call(self, expected, function, *arguments):
        """Check an answer, given twice, and that the arguments stay as they were."""
        before = copy.deepcopy(arguments)
        with self.subTest(function=function.__name__):
            found = function(*arguments)
            self.assertEqual((found, type(found)), (expected, type(expected)), arguments)
            self.assertEqual(arguments, before)
            self.assertEqual(function(*arguments), expected)

    def check_new_list(self, function, *arguments):
        """Check that an answer is a list of its own that the caller may modify."""
        self.assertIs(type(function(*arguments)), list)
        self.check_new_lists(function, *arguments)

    def check_new_lists(self, function, *arguments):
        """Check that the caller may modify all lists in an answer."""
        before = copy.deepcopy(arguments)
        with self.subTest(function=function.__name__):
            one, other = function(*arguments), function(*arguments)
            kept = copy.deepcopy(one)
            for part in lists_in(one):
                part.append("more")
            self.assertEqual(arguments, before)
            self.assertEqual(other, kept)
            self.assertEqual(function(*arguments), kept)


def lists_in(value):
    """Return all lists in a value, itself included."""
    if not isinstance(value, (list, tuple)):
        return []
    parts = [found for part in value for found in lists_in(part)]
    return parts + [value] if isinstance(value, list) else parts
