"""Points 4 to 10: each function of the first stage raises BadHouse and BadRule, whatever stands beside it."""

import unittest

from checks import Checks
from makers import RULE, wrong_houses, wrong_rules
from sawwhen.deeds import after_deed, after_deeds, commute
from sawwhen.errors import BadHouse, BadRule
from sawwhen.houses import all_sights, first_state, is_house, is_rule, sees

HOUSE = (2, (0, 0), (False, False, False), (), ())
STATE = ((0, 0), (False, False, False), (), (), ((), ()))
CALLS = [(first_state, ()), (sees, (STATE, 0, 0)), (all_sights, (STATE,)), (after_deed, (STATE, ("shut", 0))),
         (after_deeds, ([],)), (commute, (("shut", 0), ("shut", 0)))]


class WrongHouses(Checks, unittest.TestCase):
    def test_wrong_houses_beside_anything(self):
        wrong = wrong_houses()
        self.assertFalse(any(is_house(thing) for thing in wrong))
        for function, more in CALLS:
            for rule in [RULE, None] + wrong_rules()[::9]:
                self.check_wrong(function, (None, rule) + more, 0, BadHouse, wrong)
            for thing in (None, True, [], "x"):
                self.check_wrong(function, (None, RULE) + (thing,) * len(more), 0, BadHouse, wrong)

    def test_wrong_rules_beside_anything(self):
        wrong = wrong_rules()
        self.assertFalse(any(is_rule(thing) for thing in wrong))
        for function, more in CALLS:
            self.check_wrong(function, (HOUSE, None) + more, 1, BadRule, wrong)
            for thing in (None, True, [], "x"):
                self.check_wrong(function, (HOUSE, None) + (thing,) * len(more), 1, BadRule, wrong)


if __name__ == "__main__":
    unittest.main()
