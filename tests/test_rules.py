"""Points 29 and 30: rules beside one another."""

import unittest
from itertools import product

from case_makers import BIG, EXAMPLE, G0, P0, P1, at_once, case_of, in_a_row, looks_in, some_case, some_known
from case_makers import some_lively_case, wrong_cases, wrong_knowns
from checks import Checks
from makers import RULE, RULES, chance_of, with_part, wrong_rules
from reckon import Reckoning, reckoning_of, word_of
from sawwhen.errors import BadCase, BadKnown, BadRule
from sawwhen.looks import look_word, outcomes
from sawwhen.orders import is_case, is_order
from sawwhen.rules import parting_case, rule_within, rule_words, rules_alike, safest_rules

JOIN0, LEAVE0, SHUT1, SEE = ("join", 0, P0), ("leave", 0, P0), ("shut", 1), ("look", 0, 1)
ASCENDING = sorted(RULES)

# Three looks and two deeds, for wrong objects.
CASE = case_of(at_once(SEE, JOIN0, SEE, LEAVE0, ("look", 1, 1)))


def by_rule(case, rule):
    return with_part(case, 1, rule)


class Within(Checks, unittest.TestCase):
    def test_each_pair_of_the_sixteen(self):
        within = 0
        for rule, other in product(RULES, repeat=2):
            wanted = rule == other or (rule[0] == "bar" and other == ("near",) + rule[1:])
            self.check_answer(rule_within, ("rule", "other"), (rule, other), wanted)
            within += wanted
        self.assertEqual((len(set(RULES)), within), (16, 24))

    def test_a_case_for_each_pair_of_the_sixteen(self):
        for rule, other in product(RULES, repeat=2):
            found = parting_case(rule, other)
            self.assertEqual(parting_case(rule=rule, other=other), found)
            if rule_within(rule, other):
                self.assertIsNone(found)
                continue
            self.assertIs(type(found), tuple)
            case, order, number = found
            self.assertIs(is_case(case), True)
            self.assertEqual(case[1], rule)
            self.assertIs(is_order(case, order), True)
            self.assertIn((number, True), outcomes(case, order), (rule, other))
            self.assertIn((number, False), outcomes(by_rule(case, other), order), (rule, other))
            self.assertIs(next(one for one in Reckoning(case).told if one.order == order).outcomes[number], True)
            # Also by the second reckoning.
            told = Reckoning(by_rule(case, other)).told
            self.assertIs(next(one for one in told if one.order == order).outcomes[number], False)

    def test_what_is_within_sees_no_less_in_any_case(self):
        chance = chance_of(291)
        for _ in range(60):
            case = some_lively_case(chance) if chance.random() < 0.6 else some_case(chance)
            for rule in RULES:
                near = ("near",) + rule[1:]
                for one, other in zip(Reckoning(by_rule(case, rule)).told, Reckoning(by_rule(case, near)).told):
                    if rule[0] == "bar":
                        self.assertTrue(all(saw <= other.outcomes[at] for at, saw in one.outcomes.items()))

    def test_wrong_rules(self):
        for function in (rule_within, parting_case):
            self.check_wrong(function, (None, RULE), 0, BadRule, wrong_rules())
            self.check_wrong(function, (RULE, None), 1, BadRule, wrong_rules())
            self.check_first_wrong(function, (RULE, RULE), (BadRule, BadRule))


class RulesAlike(Checks, unittest.TestCase):
    def check(self, case, rule):
        found = rules_alike(case, rule)
        self.assertEqual(rules_alike(case=case, rule=rule), found)
        pairs = list(zip(reckoning_of(case).told, reckoning_of(by_rule(case, rule)).told))
        parting = [one.order for one, other in pairs if one.outcomes != other.outcomes]
        if parting:
            self.assertIs(type(found), tuple)
            self.assertIn(found, parting)
        else:
            self.assertIsNone(found)
        return found is None

    def test_the_example(self):
        for rule in RULES:
            self.assertEqual(self.check(EXAMPLE, rule), rule[2] == "now")
        self.assertEqual(rules_alike(EXAMPLE, ("near", "keeps", "login", True)), (0, 2, 1))

    def test_the_same_rule_no_event_and_no_look(self):
        for rule in RULES:
            self.assertTrue(self.check(by_rule(CASE, rule), rule))
            self.assertTrue(self.check(case_of(()), rule))
            self.assertTrue(self.check(case_of(at_once(JOIN0, ("login", 0), ("move", 1, 0), SHUT1)), rule))

    def test_alike_by_the_looks_though_not_by_the_states(self):
        case = case_of(in_a_row(("allow", 1, P0), ("look", 0, 1), ("move", 1, 0)))
        for rule in RULES:
            self.assertTrue(self.check(case, rule))
        self.assertFalse(self.check(case_of(in_a_row(("allow", 1, P0), ("move", 1, 0), SEE)), ("bar", "drops", "now", True)))

    def test_the_first_logins_are_by_the_rule(self):
        house = (2, (0,), (False, False), ((0, ("g", 1), "allow"),), ((0, P0), (1, G0)))
        case = case_of(at_once(SEE), ("bar", "keeps", "login", True), house)
        self.assertFalse(self.check(case, ("bar", "keeps", "login", False)))
        self.assertTrue(self.check(case, ("bar", "keeps", "now", True)))

    def test_some_orders_part_and_some_do_not(self):
        case = case_of(at_once(JOIN0, ("login", 0), SEE), ("bar", "keeps", "login", True))
        self.assertFalse(self.check(case, RULE))
        self.assertTrue(self.check(by_rule(case, ("near", "keeps", "login", True)), ("bar", "drops", "login", False)))

    def test_against_all_orders(self):
        chance = chance_of(301)
        alike = 0
        for _ in range(60):
            case = some_lively_case(chance) if chance.random() < 0.6 else some_case(chance)
            for rule in chance.sample(RULES, 6):
                alike += self.check(case, rule)
        self.assertTrue(30 < alike < 330, alike)

    def test_as_many_events_as_can_be(self):
        chance = chance_of(302)
        for name in ("deeds and looks", "looks by login", "the limit of entries"):
            for rule in chance.sample(RULES, 2):
                self.check(BIG[name], rule)

    def test_wrong(self):
        self.check_wrong(rules_alike, (None, RULE), 0, BadCase, wrong_cases())
        self.check_wrong(rules_alike, (CASE, None), 1, BadRule, wrong_rules())
        self.check_first_wrong(rules_alike, (CASE, RULE), (BadCase, BadRule))


class RuleWords(Checks, unittest.TestCase):
    def told(self, case, wanted):
        self.check_answer(rule_words, ("case",), (case,), wanted)

    def test_the_example(self):
        self.told(EXAMPLE, [(rule, ("sometimes" if rule[2] == "now" else "never",)) for rule in ASCENDING])

    def test_no_event_and_no_look(self):
        for case in (case_of(()), case_of(at_once(JOIN0, SHUT1))):
            self.told(case, [(rule, ()) for rule in ASCENDING])

    def test_in_the_order_of_the_numbers(self):
        case = case_of(in_a_row(SEE, ("look", 1, 0), JOIN0, SEE))
        for rule, words in rule_words(case):
            self.assertEqual(words, ("never", "always", "always" if rule[2] == "now" else "never"))
        self.assertEqual(rule_words(with_part(case, 2, case[2][::-1]))[0][1], ("never", "always", "never"))

    def test_against_all_orders(self):
        chance = chance_of(303)
        for at in range(60):
            case = some_lively_case(chance) if at % 2 else some_case(chance)
            self.told(case, words_of(case))

    def test_as_many_events_as_can_be(self):
        case = BIG["deeds and looks"]
        self.assertEqual(rule_words(case)[5], words_of(case, ASCENDING[5:6])[0])
        for rule, words in rule_words(BIG["looks by login"]):
            case = by_rule(BIG["looks by login"], rule)
            self.assertEqual(words, tuple(look_word(case, number) for number in looks_in(case)))

    def test_the_rule_of_the_case_does_not_matter(self):
        for rule in RULES:
            self.assertEqual(rule_words(by_rule(CASE, rule)), rule_words(CASE))
            self.assertEqual(safest_rules(by_rule(CASE, rule), ((0, True),)), safest_rules(CASE, ((0, True),)))

    def test_wrong(self):
        self.check_wrong(rule_words, (None,), 0, BadCase, wrong_cases())


class SafestRules(Checks, unittest.TestCase):
    def told(self, case, wishes, wanted):
        self.check_answer(safest_rules, ("case", "wishes"), (case, wishes), wanted)

    def test_the_example(self):
        self.told(EXAMPLE, ((2, False),), [rule for rule in ASCENDING if rule[2] == "login"])
        self.told(EXAMPLE, ((2, True),), ASCENDING)

    def test_no_wishes(self):
        for case in (EXAMPLE, case_of(()), case_of(at_once(JOIN0))):
            self.told(case, (), ASCENDING)

    def test_the_most_of_the_wishes(self):
        # By "login" the first wish is sure, by "now" the two others; no rule makes all sure.
        case = case_of(in_a_row(JOIN0, ("leave", 0, P1), SEE, SEE, ("look", 1, 1)))
        self.told(case, ((2, False), (3, True), (4, False)), [rule for rule in ASCENDING if rule[2] == "now"])
        self.told(case, ((2, False), (3, False), (4, False)), [rule for rule in ASCENDING if rule[2] == "login"])
        self.told(case, ((2, False), (3, True)), ASCENDING)
        self.told(case, ((2, True), (3, True), (4, True)), [rule for rule in ASCENDING if rule[2] == "now"])

    def test_against_all_orders(self):
        chance = chance_of(304)
        lengths = set()
        for at in range(80):
            case = some_lively_case(chance) if at % 4 else some_case(chance)
            wishes = some_known(chance, case)
            sure = {}
            for rule, words in words_of(case):
                told = dict(zip(looks_in(case), words))
                sure[rule] = sum(told[number] == ("always" if saw else "never") for number, saw in wishes)
            wanted = [rule for rule in ASCENDING if sure[rule] == max(sure.values())]
            lengths.add(len(wanted))
            self.told(case, wishes, wanted)
        self.assertTrue({8, 16} <= lengths, lengths)

    def test_wrong(self):
        self.check_wrong(safest_rules, (None, ()), 0, BadCase, wrong_cases())
        self.check_wrong(safest_rules, (CASE, None), 1, BadKnown, wrong_knowns(CASE))
        self.check_first_wrong(safest_rules, (CASE, ()), (BadCase, BadKnown))


def words_of(case, rules=tuple(ASCENDING)):
    """The words of the looks by each rule, by all orders."""
    rows = []
    for rule in rules:
        told = Reckoning(by_rule(case, rule))
        rows.append((rule, tuple(word_of([one.outcomes[number] for one in told.told]) for number in told.looks)))
    return rows


if __name__ == "__main__":
    unittest.main()
