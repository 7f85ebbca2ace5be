"""Checks that are the same for many functions."""

from copy import deepcopy
from itertools import product


class Checks:
    """To be a base beside unittest.TestCase."""

    def check_answer(self, function, names, values, wanted):
        """The answer is as wanted, by position and by name, each time anew, and the arguments stay as they were."""
        kept = deepcopy(values)
        got = function(*values)
        self.assertEqual(got, wanted, (function, values))
        self.assertIs(type(got), type(wanted), (function, values))
        self.assertEqual(values, kept)
        if isinstance(got, list):
            got.append("changed")
            got.reverse()
        self.assertEqual(function(**dict(zip(names, values))), wanted, (function, values))

    def check_wrong(self, function, values, at, error, wrong):
        """Each wrong object in this place raises the error."""
        for thing in wrong:
            row = list(values)
            row[at] = thing
            with self.assertRaises(error, msg=(function, at, thing)) as caught:
                function(*row)
            self.assertIs(type(caught.exception), error)

    def check_first_wrong(self, function, values, errors, things=(None, True, [], "x", 10 ** 50)):
        """Of several wrong arguments the first one tells; an error None stands for a place that takes any object."""
        for chosen in product((False, True), repeat=len(values)):
            wrong = [at for at, taken in enumerate(chosen) if taken]
            told = [errors[at] for at in wrong if errors[at] is not None]
            if told:
                for thing in things:
                    row = [thing if at in wrong else values[at] for at in range(len(values))]
                    with self.assertRaises(told[0], msg=(function, row)) as caught:
                        function(*row)
                    self.assertIs(type(caught.exception), told[0])
