"""What a command of a shell says by its words."""

from deepenough.base.words import is_name

DIGITS = "0123456789"
LONGEST_LIMIT = 40
LONGEST_INDEX = 2

# What stands behind the first word of a command. A fresh name is one that the command gives.
FORMS = {
    "new": ("fresh",),
    "copy": ("name", "fresh"),
    "drop": ("name",),
    "catch": ("name", "site", "index"),
    "bare": ("name", "sites"),
    "start": ("name", "modes"),
    "text": ("name",),
    "round": ("name",),
    "outcome": ("name", "limit"),
    "open": ("name", "limit"),
    "shows": ("name", "limit", "sign"),
    "limits": ("name", "sign"),
    "enough": ("name",),
    "idle": ("name",),
    "same": ("name", "name"),
    "parts": ("name", "name"),
}


def read_command(value):
    """The first word of a command, the names of programs in it, the fresh name or None, and all else.

    None if the value is no command.
    """
    if not isinstance(value, str):
        return None
    head, newline, text = value.partition("\n")
    words = head.split(" ")
    # Only `new` has lines below its words.
    if words[0] not in FORMS or (words[0] == "new") != (newline == "\n"):
        return None
    told = _read_forms(FORMS[words[0]], words[1:])
    if told is None:
        return None
    names = [found for form, found in told if form == "name"]
    fresh = [found for form, found in told if form == "fresh"]
    others = [found for form, found in told if form != "name" and form != "fresh"]
    return words[0], names, fresh[0] if fresh else None, [text] if words[0] == "new" else others


def _read_name(words):
    """The name with which words begin, and the words behind it; None if there is none."""
    if len(words) == 0 or not is_name(words[0]):
        return None
    return words[0], words[1:]


def _read_index(words):
    """The same of an index, a point or a mode."""
    if len(words) == 0 or not _is_number(words[0], LONGEST_INDEX):
        return None
    return int(words[0]), words[1:]


def _read_limit(words):
    """The same of a limit."""
    if len(words) == 0:
        return None
    if words[0] == "none":
        return None, words[1:]
    return (int(words[0]), words[1:]) if _is_number(words[0], LONGEST_LIMIT) else None


def _read_site(words):
    """The same of a site."""
    if len(words) < 2 or not is_name(words[0]) or not _is_number(words[1], LONGEST_INDEX):
        return None
    return (words[0], int(words[1])), words[2:]


def _read_sites(words):
    """The sites of which all words are, at least one; None if they are not."""
    sites = []
    while words or not sites:
        told = _read_site(words)
        if told is None:
            return None
        site, words = told
        sites.append(site)
    return tuple(sites), words


def _read_modes(words):
    """The same of different modes in ascending order, each a digit."""
    if len(words) == 0 or not all([len(word) == 1 and word in DIGITS for word in words]):
        return None
    if not all([one < other for one, other in zip(words, words[1:])]):
        return None
    return tuple([int(word) for word in words]), []


def _read_sign(words):
    """The sign of which all words are, and no words; None if they are no sign."""
    if words == ["full"]:
        return ("full",), []
    if len(words) == 0:
        return None
    forms = ("name", "index", "index") if words[0] == "place" else ("site",)
    if words[0] != "place" and words[0] != "enter" and words[0] != "over" and words[0] != "catch":
        return None
    told = _read_forms(forms, words[1:])
    return None if told is None else ((words[0], *[found for _, found in told]), [])


READERS = {
    "name": _read_name,
    "fresh": _read_name,
    "index": _read_index,
    "limit": _read_limit,
    "site": _read_site,
    "sites": _read_sites,
    "modes": _read_modes,
    "sign": _read_sign,
}


def _read_forms(forms, words):
    """The pairs of forms and of what words tell by them; None if they do not have these forms, one for each."""
    told = []
    for form in forms:
        reader = READERS[form]
        found = reader(words)
        if found is None:
            return None
        value, words = found
        told.append((form, value))
    return told if len(words) == 0 else None


def _is_number(word, most):
    """Whether a word is a number of so many digits at most, without leading zeros."""
    if not 1 <= len(word) <= most or not all([digit in DIGITS for digit in word]):
        return False
    return word == "0" or word[0] != "0"
