"""A desk, which keeps ledgers under names, and does and tells what lines ask for."""

from enoughchecks.clusters import clusters, holes
from enoughchecks.errors import NoLine, NoName, NothingDone
from enoughchecks.leasts import least_number
from enoughchecks.ledgers import Ledger
from enoughchecks.reading import number_of, read_web, way_of
from enoughchecks.texts import web_text
from enoughchecks.ways import ways_many

MOST_LETTERS = 8
# What stands behind the word of a line, but for that of a web.
FORMS = {
    "arrow": ("name", "number", "number"),
    "strike": ("name", "number"),
    "renewed": ("name", "number"),
    "passed": ("name", "way", "way"),
    "failed": ("name", "way", "way"),
    "drop": ("name",),
    "undo": (),
    "show": ("name",),
    "checks": ("name",),
    "ways": ("name", "number", "number"),
    "clusters": ("name", "number", "number"),
    "least": ("name",),
    "lacking": ("name",),
    "holes": ("name",),
    "same": ("name", "way", "way"),
    "blamed": ("name",),
    "names": (),
}


def _is_name(word):
    """Tell whether a word is a name."""
    return 1 <= len(word) <= MOST_LETTERS and all([sign in "abcdefghijklmnopqrstuvwxyz" for sign in word])


def _value(kind, word):
    """Tell the value of a word of a kind, or None if it is none of this kind."""
    if kind == "name":
        return word if _is_name(word) else None
    if kind == "number":
        return number_of(word)
    return way_of(word.split(","))


def _web_values(words):
    """Tell the values of a line that keeps a web: a name, and all that stands behind it."""
    text = " ".join(words[1:])
    if text == "" or not _is_name(words[0]):
        raise NoLine()
    return [words[0], text]


def _parsed(line):
    """Tell the pair (word, values) of a line."""
    if not isinstance(line, str) or "\n" in line:
        raise NoLine()
    word, *words = line.split(" ")
    if word == "web":
        return (word, _web_values(words))
    if word not in FORMS or len(words) != len(FORMS[word]):
        raise NoLine()
    values = [_value(kind, part) for kind, part in zip(FORMS[word], words)]
    if None in values:
        raise NoLine()
    return (word, values)


def _or_none(text):
    """Tell a text, or "none" for an empty one."""
    return "none" if text == "" else text


def _lot_text(lot):
    """Tell a lot as a text, with commas between."""
    return _or_none(",".join([str(number) for number in lot]))


def _arrow(ledger, u, v):
    """Put in one arrow more, and tell its number."""
    return str(ledger.arrow(u, v))


def _strike(ledger, arrow):
    """Take an arrow out."""
    ledger.strike(arrow)
    return "ok"


def _renewed(ledger, arrow):
    """Note that an arrow got another table, and tell which checks are void since."""
    return _lot_text(ledger.renewed(arrow))


def _passed(ledger, one, other):
    """Note that a check of two ways, in whichever order, was passed."""
    ledger.passed((min(one, other), max(one, other)))
    return "ok"


def _failed(ledger, one, other):
    """Note that a check of two ways, in whichever order, failed."""
    ledger.failed((min(one, other), max(one, other)))
    return "ok"


def _show(ledger):
    """Tell the text of the web, with `|` in the place of each line feed."""
    return web_text(ledger.web()).replace("\n", "|")


def _checks(ledger):
    """Tell the first letters of the states of the checks."""
    return _or_none("".join([state[0] for _, state in ledger.checks()]))


def _ways(ledger, u, v):
    """Tell how many ways lead from u to v."""
    return str(ways_many(ledger.web(), u, v))


def _clusters(ledger, u, v):
    """Tell how many clusters there are from u to v."""
    return str(len(clusters(ledger.web(), u, v)))


def _least(ledger):
    """Tell the least number of checks that are enough."""
    return str(least_number(ledger.web()))


def _lacking(ledger):
    """Tell how few further checks make the sound ones enough."""
    return str(ledger.lacking())


def _holes(ledger):
    """Tell the pairs of places for which the sound checks are not enough."""
    return _or_none(" ".join([f"{u}-{v}" for u, v in holes(ledger.web(), ledger.sound())]))


def _same(ledger, one, other):
    """Tell whether it is known that two ways agree."""
    return "yes" if ledger.known(one, other) else "no"


def _blamed(ledger):
    """Tell the arrows of which one can have been spoiled."""
    return _lot_text(ledger.blamed())


# What is done with the ledger of a name, and can be taken back by the ledger itself.
DEEDS = {"arrow": _arrow, "strike": _strike, "renewed": _renewed, "passed": _passed, "failed": _failed}
QUESTIONS = {
    "show": _show, "checks": _checks, "ways": _ways, "clusters": _clusters, "least": _least, "lacking": _lacking,
    "holes": _holes, "same": _same, "blamed": _blamed}


class Desk:
    """Ledgers under names, and the lines that can be taken back."""

    def __init__(self):
        self._kept = {}
        # Triples (name, old, done) of what was kept under the name, and of whether a deed of the ledger was done.
        self._past = []

    def tell(self, line):
        """Do what a line says, and tell what came of it."""
        word, values = _parsed(line)
        if word == "web":
            return self._put(values)
        if word == "undo":
            return self._undo()
        if word == "names":
            return _or_none(" ".join(sorted(self._kept)))
        name, *rest = values
        if name not in self._kept:
            raise NoName(name)
        if word == "drop":
            return self._drop(name)
        return self._ask(word, name, rest)

    def _put(self, values):
        """Keep a ledger of a new web under a name."""
        name, text = values
        web = read_web(text.replace("|", "\n"))
        self._past.append((name, self._kept.get(name), False))
        self._kept[name] = Ledger(web)
        return "ok"

    def _drop(self, name):
        """Keep nothing under a name any more."""
        self._past.append((name, self._kept[name], False))
        del self._kept[name]
        return "ok"

    def _ask(self, word, name, rest):
        """Do or tell something by the ledger that is kept under a name."""
        ledger = self._kept[name]
        if word in QUESTIONS:
            question = QUESTIONS[word]
            return question(ledger, *rest)
        deed = DEEDS[word]
        told = deed(ledger, *rest)
        self._past.append((name, ledger, True))
        return told

    def _undo(self):
        """Take back the last line that is not taken back."""
        if len(self._past) == 0:
            raise NothingDone()
        name, old, done = self._past.pop()
        if done:
            old.back()
        elif old is None:
            del self._kept[name]
        else:
            self._kept[name] = old
        return "ok"

    def undoable(self):
        """Tell how many lines can be taken back."""
        return len(self._past)
