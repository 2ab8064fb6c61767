"""Logs, texts of what was done with a ledger, out of which it can be done again."""

from enoughchecks.errors import BadText, CheckError
from enoughchecks.ledgers import Ledger
from enoughchecks.reading import check_of, numbers_of
from enoughchecks.texts import check_text, in_words, lines_text


def _line(deed):
    """Tell the line of a deed."""
    word, *rest = deed
    told = check_text(rest[0]) if word in ("passed", "failed") else in_words(rest)
    return f"{word} {told}"


def log(ledger):
    """Tell a text with a line for each deed of a ledger that can be taken back, in order."""
    return lines_text([_line(deed) for deed in ledger.story()])


def _deed_of(line):
    """Tell the deed of a line, as a ledger's story tells it, or None if the line has none of the forms."""
    word, *words = line.split(" ")
    if word in ("passed", "failed"):
        check = check_of(words)
        return None if check is None else (word, check)
    rest = numbers_of(words)
    if rest is None or (word, len(rest)) not in (("arrow", 2), ("strike", 1), ("renewed", 1)):
        return None
    return (word, *rest)


def _do(ledger, deed):
    """Do a deed with a ledger."""
    word, *rest = deed
    if word == "arrow":
        ledger.arrow(*rest)
    elif word == "strike":
        ledger.strike(*rest)
    elif word == "renewed":
        ledger.renewed(*rest)
    elif word == "passed":
        ledger.passed(*rest)
    else:
        ledger.failed(*rest)


def _can_do(ledger, deed):
    """Do a deed with a ledger, and tell whether it could be done."""
    try:
        _do(ledger, deed)
    except CheckError:
        return False
    return True


def restored(web, text):
    """Tell the pair (ledger, lines) of a ledger that begins with a web and does what the lines of a text tell.

    It ends ahead of the first line that tells nothing it could do; lines is how many there are ahead of that one.
    """
    if not isinstance(text, str):
        raise BadText(0)
    ledger = Ledger(web)
    done = 0
    # What stands behind the last line feed may be the begin of a line that was cut off.
    for line in text.split("\n")[:-1]:
        deed = _deed_of(line)
        if deed is None or not _can_do(ledger, deed):
            break
        done += 1
    return (ledger, done)
