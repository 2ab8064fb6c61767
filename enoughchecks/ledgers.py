"""Ledgers, which go along with a web that is edited, and with the checks that are done in the one world there is."""

from enoughchecks.basics import need_arrow
from enoughchecks.chains import follows
from enoughchecks.changes import with_arrow, without_arrow
from enoughchecks.checking import is_check
from enoughchecks.enough import further_out_of, lacking
from enoughchecks.errors import NoCheck, NothingDone
from enoughchecks.suspects import suspects


def _has(check, arrow):
    """Tell whether a way of a check has an arrow."""
    one, other = check
    return arrow in one or arrow in other


def _closed_up(way, arrow):
    """Tell a way with the arrows above one that goes one less."""
    return tuple([other - 1 if other > arrow else other for other in way])


class Ledger:
    """A web, the checks that were done in it with their states, and the deeds by which both came to be."""

    def __init__(self, web):
        self._web = web
        # All of this is tuples, so that what was there ahead of a deed is kept as it was.
        self._checks = ()
        self._past = ()

    def _do(self, deed, web, checks):
        """Keep a deed with what was there ahead of it, and go on with the web and the checks behind it."""
        self._past = (*self._past, (deed, self._web, self._checks))
        self._web = web
        self._checks = tuple(checks)

    def arrow(self, u, v):
        """Put in one arrow more, and tell its number."""
        web = with_arrow(self._web, u, v)
        self._do(("arrow", u, v), web, self._checks)
        return len(web.arrows) - 1

    def strike(self, arrow):
        """Take an arrow out, and the checks that have it."""
        web = without_arrow(self._web, arrow)
        left = [(check, state) for check, state in self._checks if not _has(check, arrow)]
        checks = [((_closed_up(one, arrow), _closed_up(other, arrow)), state) for (one, other), state in left]
        self._do(("strike", arrow), web, checks)

    def renewed(self, arrow):
        """Make each check void that has an arrow, which got another table, and tell the lot of those that were not."""
        need_arrow(self._web, arrow)
        found = [at for at, (check, state) in enumerate(self._checks) if state != "void" and _has(check, arrow)]
        checks = [(check, "void" if _has(check, arrow) else state) for check, state in self._checks]
        self._do(("renewed", arrow), self._web, checks)
        return tuple(found)

    def _done(self, check, state):
        """Keep the state of a check that was done, in its place if it was done before."""
        if not is_check(self._web, check):
            raise NoCheck()
        states = {other: old for other, old in self._checks}
        states[check] = state
        self._do((state, check), self._web, list(states.items()))

    def passed(self, check):
        """Keep that a check was done and passed."""
        self._done(check, "passed")

    def failed(self, check):
        """Keep that a check was done and failed."""
        self._done(check, "failed")

    def web(self):
        """Tell the web."""
        return self._web

    def checks(self):
        """Tell the tuple of the pairs (check, state), in order."""
        return self._checks

    def _of_state(self, wanted):
        """Tell the tuple of the checks with a state, in order."""
        return tuple([check for check, state in self._checks if state == wanted])

    def sound(self):
        """Tell the tuple of the checks that passed, in order."""
        return self._of_state("passed")

    def lacking(self):
        """Tell the least number of further checks behind which the sound ones are enough."""
        return lacking(self._web, self.sound())

    def known(self, one, other):
        """Tell whether two ways agree in every world that passes the sound checks."""
        return follows(self._web, self.sound(), one, other)

    def due(self):
        """List as few checks as any behind which the sound ones are enough, as many void ones as can be."""
        return further_out_of(self._web, self.sound(), self._of_state("void"))

    def blamed(self):
        """Tell the lot of the arrows of which one can have been spoiled, by the checks that passed and that failed."""
        left = [(check, state) for check, state in self._checks if state != "void"]
        failed = tuple([at for at, (_, state) in enumerate(left) if state == "failed"])
        return suspects(self._web, [check for check, _ in left], failed)

    def back(self):
        """Take back the last deed that is not taken back."""
        if len(self._past) == 0:
            raise NothingDone()
        _, self._web, self._checks = self._past[-1]
        self._past = self._past[:-1]

    def deeds(self):
        """Tell how many deeds can be taken back."""
        return len(self._past)

    def story(self):
        """List the deeds that can be taken back, in order, each as a tuple of its word and what it was done with."""
        return [deed for deed, _, _ in self._past]

    def copy(self):
        """Make another ledger that goes on apart."""
        twin = Ledger(self._web)
        twin._checks = self._checks
        twin._past = self._past
        return twin

    def trying(self, action):
        """Call an action once with the ledger, put everything back, and tell what the action returned."""
        web, checks, past = self._web, self._checks, self._past
        try:
            return action(self)
        finally:
            self._web, self._checks, self._past = web, checks, past
