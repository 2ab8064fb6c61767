"""Webs and checks as texts, a line for each arrow or check."""

from enoughchecks.checking import need_checks


def in_words(numbers):
    """Tell numbers as a text, with a blank between two."""
    return " ".join([str(number) for number in numbers])


def check_text(check):
    """Tell a check as a text: the arrows of its first way, `=`, those of its other one."""
    one, other = check
    return f"{in_words(one)} = {in_words(other)}"


def lines_text(lines):
    """Tell lines as one text, in which a line feed closes each of them."""
    return "".join([f"{line}\n" for line in lines])


def web_text(web):
    """Tell a web as a text: a line with its places, then one for each arrow with its begin and its end."""
    return lines_text([f"places {web.places}", *[in_words(pair) for pair in web.arrows]])


def checks_text(web, checks):
    """Tell checks as a text, with a line for each."""
    need_checks(web, checks)
    return lines_text([check_text(check) for check in checks])
