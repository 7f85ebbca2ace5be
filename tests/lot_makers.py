"""Lots, claims and wrong objects of both for the tests; all of them come out the same in each run."""

from case_makers import looks_in, some_known
from makers import RULE, WRONG, wrong_numbers, wrong_rows


def all_pairs(case):
    numbers = range(len(case[2]))
    return [(number, other) for number in numbers for other in numbers if number != other]


def some_lot(chance, case, most=4):
    """A lot of a case, perhaps one that leaves no order."""
    pairs = all_pairs(case)
    return tuple(sorted(chance.sample(pairs, min(len(pairs), chance.randint(0, most)))))


def some_wishes(chance, case, told):
    """Wishes: any at all, or such as some order keeps."""
    if chance.random() < 0.3 or not told.looks:
        return some_known(chance, case)
    one = chance.choice(told.told)
    chosen = [number for number in told.looks if chance.random() < 0.6]
    return tuple((number, one.outcomes[number]) for number in chosen)


def wrong_pairs_of(case):
    """Objects that are no pair of a case of at least three events."""
    many = len(case[2])
    wrong = list(WRONG) + wrong_rows((0, 1))[:8] + [(0, 0), (2, 2), (0,), "01", b"01", {0: 1}]
    wrong += [(number, 0) for number in wrong_numbers(many)] + [(0, number) for number in wrong_numbers(many)]
    return wrong + [(True, 0), (True, 2), (0, True), (False, 1), (1, False), (2, True), ((0, 1), (1, 2))]


def wrong_lots(case):
    """Objects that are no lot of a case of at least three events."""
    first, second, third = (0, 1), (1, 0), (1, 2)
    wrong = [thing for thing in WRONG if thing != ()]
    wrong += [first, [first], [first, second], {first: second}, "", ((0, 1, 2),), (first, third, second)]
    wrong += [(second, first), (first, first), (first, second, second), (third, second), (first, (), second)]
    wrong += [(pair,) for pair in wrong_pairs_of(case)]
    return wrong + [(first, pair) for pair in wrong_pairs_of(case)] + [(pair, (2, 1)) for pair in wrong_pairs_of(case)]


def wrong_pair_lists(case):
    """Objects that are no list of unlike pairs of a case of at least three events."""
    first, second = (0, 1), (1, 0)
    wrong = [thing for thing in WRONG if thing != []]
    wrong += [(), first, (first,), (first, second), {first: second}, [first, first], [first, second, first]]
    wrong += [[pair] for pair in wrong_pairs_of(case)] + [[first, pair, second] for pair in wrong_pairs_of(case)]
    # Of however many: also these are wrong, not too many.
    pairs = all_pairs(case)
    wrong += [pairs[:6] + pairs[:1], pairs[:6] * 2, pairs + pairs, pairs[:1] * 7, pairs[:1] * 1000, tuple(pairs)]
    return wrong + [pairs[:6] + [pair] for pair in wrong_pairs_of(case)]


# Everybody is in group 0, for which the deeds let everybody see, or nobody.
WATCHED = (3, (), (False,), (), tuple((0, ("p", person)) for person in range(3)))
SWITCHES = (("allow", 0, ("g", 0)), ("bar", 0, ("g", 0)), ("clear", 0, ("g", 0)))


def some_watched_case(chance):
    """A case in which looks tell of one another: one or two deeds at any moment, and looks of three people by turns."""
    deeds = [(SWITCHES[0], 0, 30)] + [(what, 0, 30) for what in SWITCHES if chance.random() < 0.3]
    looks = []
    for at in range(chance.randint(2, 6 - len(deeds))):
        looks.append((("look", chance.randrange(3), 0), 3 * at + 2, 3 * at + chance.choice((2, 2, 5))))
    events = deeds + looks
    chance.shuffle(events)
    return (WATCHED, RULE, tuple(events))


def some_people(chance, people):
    """A tuple of persons of so many people."""
    return tuple(sorted(chance.sample(range(people), chance.randint(1, people))))


def some_claim(chance, case, deep):
    """A claim of a case with looks, at most so deep."""
    word = chance.choice(("saw", "not", "and", "knows", "knows", "all", "common", "told", "told"))
    if deep == 1 or word == "saw":
        return ("saw", chance.choice(looks_in(case)))
    inner = some_claim(chance, case, deep - 1)
    if word == "not":
        return (word, inner)
    if word in ("and", "told"):
        return (word, inner, some_claim(chance, case, deep - 1))
    if word == "knows":
        return (word, chance.randrange(case[0][0]), inner)
    return (word, some_people(chance, case[0][0]), inner)


def count_claims(claim):
    """How many claims stand in the claim, itself among them."""
    return 1 + sum(count_claims(part) for part in claim[1:] if isinstance(part, tuple) and isinstance(part[0], str))


def claim_of(look, deep, many):
    """A claim of "not" and "and", exactly so deep and with exactly so many claims in all."""
    if many == deep:
        return ("saw", look) if deep == 1 else ("not", claim_of(look, deep - 1, many - 1))
    second = min(many - 1 - (deep - 1), 2 ** (deep - 1) - 1)
    first = many - 1 - second
    # The one that is as deep as can be gets the larger part.
    return ("and", claim_of(look, deep - 1, max(first, second)), small_claim(look, min(first, second)))


def small_claim(look, many):
    """A claim with exactly so many claims in all, as flat as can be."""
    if many == 1:
        return ("saw", look)
    if many == 2:
        return ("not", ("saw", look))
    half = (many - 1) // 2
    return ("and", small_claim(look, half), small_claim(look, many - 1 - half))


def wrong_people(people):
    """Objects that are no tuple of persons of so many people, at least two."""
    wrong = list(WRONG) + [[0], [0, 1], (1, 0), (0, 0), (0, 1, 1), {0: 1}, (0, (1,)), ((0, 1),), ((0,), (1,)), "01"]
    wrong += [(number,) for number in wrong_numbers(people)] + [(0, number) for number in wrong_numbers(people)]
    return wrong + [(False, 1), (False,), (True,), (0, True), tuple(range(people + 1)), range(people), (0, None)]


def wrong_claims(case):
    """Objects that are no claim of a case of at least a look, a deed, and two people."""
    look = looks_in(case)[0]
    good = ("saw", look)
    numbers = wrong_numbers(len(case[2])) + [at for at in range(len(case[2])) if at not in looks_in(case)]
    wrong = list(WRONG) + [["saw", look], ("saw",), ("saw", look, look), ("saw", (look,)), ("Saw", look), (b"saw", look)]
    wrong += [("saw", number) for number in numbers] + [("or", good, good), ("", look), (None, look), (good,), "saw"]
    wrong += [("not",), ("not", good, good), ["not", good], ("not", look), ("not", ("saw",)), (good, "not")]
    wrong += [("and", good), ("and", good, good, good), ("and", good, None), ("and", None, good), ("and",)]
    wrong += [("told", good), ("told", good, good, good), ("told", good, look), ("told", (), good), ("told",)]
    wrong += [("knows", person, good) for person in wrong_numbers(case[0][0])] + [("knows", good, 0), ("knows", 0)]
    wrong += [("knows", (0,), good), ("knows", 0, good, good), ("knows", good), ("knows", 0, look)]
    for word in ("all", "common"):
        wrong += [(word, people, good) for people in wrong_people(case[0][0])]
        wrong += [(word, good), (word, good, (0,)), (word, (0,)), (word, (0,), look), (word, (0,), good, good)]
    wrong += [(word, good) for word in ("saw", "SAW", "not ", "know", "told")] + [(("not",), good)]
    for thing in list(wrong):
        wrong += [("not", thing), ("and", good, thing), ("knows", 0, thing), ("common", (0, 1), ("not", thing))]
    return wrong + [claim_of(look, 7, many) for many in (7, 12, 60)] + [claim_of(look, 6, many) for many in (61, 62, 63)]
