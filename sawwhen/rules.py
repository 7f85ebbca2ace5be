"""Rules beside one another: which lets see more, and by which of them wishes are sure."""

from sawwhen.houses import need_rule
from sawwhen.known import need_known
from sawwhen.looks import looks_of, word_for
from sawwhen.orders import need_case
from sawwhen.results import Results
from sawwhen.twins import Twins
from sawwhen.web import Web

PERSON = ("p", 0)
INNER = ("g", 0)
OUTER = ("g", 1)

# Person 0 is in the inner group, and that one in the outer group.
NESTED = ((0, ("p", 0)), (1, ("g", 0)))


def _is_within(rule, other):
    """Whether the rules are equal, or alike but for first, "bar" for the first one and "near" for the other one."""
    return rule[1:] == other[1:] and (rule[0], other[0]) != ("near", "bar")


def rule_within(rule, other):
    """Whether by the other rule each look sees that sees by the rule, in every order of every case."""
    need_rule(rule)
    need_rule(other)
    return _is_within(rule, other)


def _house_that_parts(rule, other):
    """Return the entries, the members and the deeds by which person 0 sees folder 1 by the rule, not by the other one.

    It is told by the first part in which the rules are not alike; the other parts do not matter for it.
    """
    first, moving, known, deep = rule
    if first == "near" and other[0] == "bar":
        return ((0, PERSON, "bar"), (1, PERSON, "allow")), (), ()
    if moving != other[1]:
        kept = "allow" if moving == "keeps" else "bar"
        above = () if moving == "keeps" else ((0, PERSON, "allow"),)
        return above + ((1, PERSON, kept),), (), (("move", 1, 0),)
    if known != other[2]:
        change = "join" if known == "now" else "leave"
        members = () if known == "now" else ((0, PERSON),)
        return ((1, INNER, "allow"),), members, ((change, 0, PERSON),)
    if deep:
        return ((1, OUTER, "allow"),), NESTED, ()
    return ((1, INNER, "allow"), (1, OUTER, "bar")), NESTED, ()


def parting_case(rule, other):
    """Return a case, an order and a look that sees by the rule and not by the other one, None if it is within it."""
    need_rule(rule)
    need_rule(other)
    if _is_within(rule, other):
        return None
    entries, members, deeds = _house_that_parts(rule, other)
    house = (1, (0,), (False, False), entries, members)
    # Each event is surely ahead of the next one, so there is but one order.
    whats = deeds + (("look", 0, 1),)
    events = tuple([(what, at, at) for at, what in enumerate(whats)])
    return ((house, rule, events), tuple(range(len(whats))), len(deeds))


def _by_rule(case, rule):
    """Return the case with this rule in the place of its own."""
    return (case[0], rule, case[2])


def rules_alike(case, rule):
    """Return an order in which some look comes out otherwise by this rule than by that of the case, None for none."""
    need_case(case)
    need_rule(rule)
    return Twins(Results(case), Results(_by_rule(case, rule))).parting_order()


def _all_rules():
    """Return the list, ascending, of all rules."""
    return [
        (first, moving, known, deep) for first in ("bar", "near") for moving in ("drops", "keeps")
        for known in ("login", "now") for deep in (False, True)
    ]


def _words_by(case, rule):
    """Return the dict from the number of each look to its word by the rule."""
    web = Web(_by_rule(case, rule))
    seen = web.seen_counts()
    count = web.order_count()
    return {number: word_for(seen[number], count) for number in looks_of(case)}


def rule_words(case):
    """Return the list, for all rules, ascending, of (rule, the tuple of the words of all looks by it)."""
    need_case(case)
    rows = []
    for rule in _all_rules():
        words = _words_by(case, rule)
        rows.append((rule, tuple([words[number] for number in words])))
    return rows


def safest_rules(case, wishes):
    """Return the list, ascending, of the rules by which the most of the wishes are sure."""
    need_case(case)
    need_known(case, wishes)
    sure = {rule: _count_sure(_words_by(case, rule), wishes) for rule in _all_rules()}
    most = max(sure.values())
    return [rule for rule in sure if sure[rule] == most]


def _count_sure(words, wishes):
    """Return how many of the wishes are sure by these words of the looks."""
    return len([number for number, saw in wishes if words[number] == ("always" if saw else "never")])
