"""Checks that the tests of several modules share."""

import copy
import inspect


class Checks:
    """What a test case gets beside unittest.TestCase."""

    def check_interface(self, module, expected):
        """Check that functions are defined in a module with just these arguments."""
        for name, arguments in expected.items():
            with self.subTest(name=name):
                found = getattr(module, name)
                self.assertEqual(found.__module__, module.__name__)
                self.assertEqual(list(inspect.signature(found).parameters), arguments)

    def check_raises(self, expected, function, *arguments):
        """Check that just this exception is raised, and that the arguments stay as they were."""
        before = copy.deepcopy(arguments)
        with self.subTest(function=function.__name__, expected=expected.__name__):
            with self.assertRaises(expected) as caught:
                function(*arguments)
            self.assertIs(type(caught.exception), expected)
            self.assertEqual(arguments, before)

    def check_call(self, expected, function, *arguments):
        """Check an answer, given twice, and that the arguments stay as they were."""
        before = copy.deepcopy(arguments)
        with self.subTest(function=function.__name__):
            found = function(*arguments)
            self.assertEqual((found, type(found)), (expected, type(expected)), arguments)
            self.assertEqual(arguments, before)
            self.assertEqual(function(*arguments), expected)

    def check_new_list(self, function, *arguments):
        """Check that an answer is a list of its own that the caller may modify."""
        before = copy.deepcopy(arguments)
        with self.subTest(function=function.__name__):
            one = function(*arguments)
            kept = copy.deepcopy(one)
            self.assertIs(type(one), list)
            self.assertIsNot(function(*arguments), one)
            for part in one:
                if isinstance(part, list):
                    part.append("more")
            one.append("more")
            self.assertEqual(arguments, before)
            self.assertEqual(function(*arguments), kept)
