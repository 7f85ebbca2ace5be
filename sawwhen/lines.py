"""The forms of the lines and words of texts, whatever house they are about; what is read may be none of any house."""

from sawwhen.forms import DEED_PARTS, KINDS, is_word

FIRSTS = ("bar", "near")
MOVINGS = ("keeps", "drops")
KNOWNS = ("now", "login")
DEEPS = ("deep", "flat")

# The parts of all that has a line of its own, each behind its first word.
LINE_PARTS = {
    "people": ("number",),
    "folder": ("folder",),
    "shut": ("folder",),
    "entry": ("folder", "who", "kind"),
    "member": ("group", "who"),
}

LOOK_PARTS = ("person", "folder")


def number_of(word):
    """Return the number that the word writes, None if it is none of one or two digits without a leading 0."""
    if not word.isascii() or not word.isdigit() or len(word) > 2:
        return None
    return None if len(word) == 2 and word[0] == "0" else int(word)


def who_of(word):
    """Return the person or group that the word writes, None if it writes none."""
    number = number_of(word[1:])
    if number is None or not is_word(word[0], ("p", "g")):
        return None
    return (word[0], number)


def _part_of(word, name):
    """Return the part of this name that the word writes, None if it writes none."""
    if name == "who":
        return who_of(word)
    if name == "kind":
        return word if word in KINDS else None
    return number_of(word)


def _parts_of(words, names):
    """Return the tuple of the parts of these names that the words write, None if they write none."""
    if len(words) != len(names):
        return None
    parts = [_part_of(word, name) for word, name in zip(words, names)]
    return None if None in parts else tuple(parts)


def _row_of(words, names):
    """Return the tuple of the first word and the parts that the others write, None if they write none."""
    parts = _parts_of(words[1:], names)
    return None if parts is None else (words[0],) + parts


def what_of(text):
    """Return the deed or look that the text writes, None if it is not of the form of any."""
    words = text.split(" ")
    if words[0] == "look":
        return _row_of(words, LOOK_PARTS)
    return _row_of(words, DEED_PARTS[words[0]]) if words[0] in DEED_PARTS else None


def rule_of(text):
    """Return the rule that the text writes, None if it writes none."""
    words = text.split(" ")
    if len(words) != 4:
        return None
    first, moving, known, deep = words
    if first not in FIRSTS or moving not in MOVINGS or known not in KNOWNS or deep not in DEEPS:
        return None
    return (first, moving, known, deep == "deep")


def _event_of(text):
    """Return ("event", what, early, late) that the text writes, None if it writes none."""
    what, _, bounds = text.partition(" @ ")
    done = what_of(what)
    numbers = _parts_of(bounds.split(" "), ("early", "late"))
    return None if done is None or numbers is None else ("event", done) + numbers


def row_of(text):
    """Return the tuple of the kind and the parts that a line writes, other than the rule, None if it writes none."""
    if " @ " in text:
        return _event_of(text)
    words = text.split(" ")
    return _row_of(words, LINE_PARTS[words[0]]) if words[0] in LINE_PARTS else None


def show_who(who):
    """Return the text of a person or group."""
    return f"{who[0]}{who[1]}"


def _show_part(part):
    return show_who(part) if isinstance(part, tuple) else str(part)


def show_row(row):
    """Return the text of a tuple of words, numbers and who, with blanks between them."""
    return " ".join([_show_part(part) for part in row])


def show_rule(rule):
    """Return the text of a rule."""
    first, moving, known, deep = rule
    return show_row((first, moving, known, "deep" if deep else "flat"))
