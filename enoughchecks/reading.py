"""Webs and checks read from their texts, and the words that such texts are made of."""

from enoughchecks.checking import is_check
from enoughchecks.errors import BadText
from enoughchecks.webs import Web

MOST_FIGURES = 9


def number_of(word):
    """Tell the number that a word is, without a sign and needless noughts, or None."""
    if len(word) == 0 or len(word) > MOST_FIGURES:
        return None
    if not all([sign in "0123456789" for sign in word]) or (word[0] == "0" and len(word) > 1):
        return None
    return int(word)


def numbers_of(words):
    """Tell the tuple of the numbers that words are, or None if one of them is none."""
    found = tuple([number_of(word) for word in words])
    return None if None in found else found


def way_of(words):
    """Tell the tuple of the numbers that words are, at least one, or None."""
    if len(words) == 0:
        return None
    return numbers_of(words)


def check_of(words):
    """Tell the pair of what stands ahead of and behind the one `=` among words, both as numbers, or None."""
    if words.count("=") != 1:
        return None
    at = words.index("=")
    one = way_of(words[:at])
    other = way_of(words[at + 1:])
    return None if one is None or other is None else (one, other)


def _places_of(words):
    """Tell the number of places that the first line of a web's text tells, or None."""
    if len(words) != 2 or words[0] != "places":
        return None
    return number_of(words[1])


def _arrow_of(words):
    """Tell the pair that another line of a web's text tells, or None."""
    return numbers_of(words) if len(words) == 2 else None


def _lines_of(text):
    """Tell the pair (closed, rest) of the words of each closed line of a text, and of what stands behind these."""
    if not isinstance(text, str):
        raise BadText(0)
    *closed, rest = text.split("\n")
    return ([line.split(" ") for line in closed], rest)


def _need_forms(found, rest):
    """Raise BadText with the first line of which nothing was found, or with the last one if it is not closed."""
    if None in found:
        raise BadText(found.index(None) + 1)
    if rest != "":
        raise BadText(len(found) + 1)


def read_web(text):
    """Tell the web of a text."""
    closed, rest = _lines_of(text)
    found = [_places_of(words) if at == 0 else _arrow_of(words) for at, words in enumerate(closed)]
    _need_forms(found, rest)
    if len(found) == 0:
        raise BadText(1)
    places, *arrows = found
    return Web(places, tuple(arrows))


def read_checks(web, text):
    """List the checks of a text."""
    closed, rest = _lines_of(text)
    found = [check_of(words) for words in closed]
    _need_forms(found, rest)
    seen = set()
    for at, check in enumerate(found):
        if not is_check(web, check) or check in seen:
            raise BadText(at + 1)
        seen.add(check)
    return found
