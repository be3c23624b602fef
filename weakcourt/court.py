"""The court: whether some collector explains a log, and what it has condemned then."""

from weakcourt.commands import fault_of
from weakcourt.explanations import explanation
from weakcourt.logs import state_behind
from weakcourt.playing import play, told_in
from weakcourt.states import pending_in

# It fits behind every log, and the set ahead of it is the one behind the log.
EMPTY_DRAIN = (("drain",), ())


def audit(heap, log):
    """("explained", the schedule), or ("unexplained", the first place that no collector explains)."""
    for place in range(len(log)):
        if late(heap, log[:place + 1]) is None:
            return ("unexplained", place)
    return ("explained", explanation(heap, log, early=True))


def late(heap, log):
    """The sets of the late explanation, None if the log is not explainable."""
    return explanation(heap, log)


def fewest(heap, log):
    """The fewest sets that are not empty and explain the log, None if it is not explainable."""
    sets = late(heap, log)
    return None if sets is None else len([numbers for numbers in sets if numbers])


def all_in(sets):
    """The numbers in the sets, which have none twice, rising."""
    return tuple(sorted([number for numbers in sets for number in numbers]))


class Court:
    """A court that takes in one observation after the other, as long as the log is explainable."""

    def __init__(self, heap):
        self.log = ()
        self._heap = heap

    def observe(self, command, result):
        """Whether the log with this observation is explainable; only then it is taken in."""
        log = self.log + ((command, result),)
        if late(self._heap, log) is None:
            return False
        self.log = log
        return True

    def certain(self):
        """The objects that every explanation has condemned, rising."""
        # What is certain is in each explanation, so that only the objects of one need be asked.
        asked = all_in(late(self._heap, self.log))
        return tuple([number for number in asked if not self._spares(number)])

    def _spares(self, number):
        """Whether some explanation never condemns this object."""
        return explanation(self._heap, self.log, spared=(number,)) is not None

    def possible(self):
        """The objects that some explanation has condemned by now, rising."""
        return all_in(explanation(self._heap, self.log + (EMPTY_DRAIN,), early=True))

    def could_see(self, command):
        """The results with which the command would be taken in; for drain what tokens can come."""
        if command[0] == "drain":
            return ("tokens", (), self._tokens())
        there = play(self._heap, self.log)
        if fault_of(there, command) is not None:
            return ()
        told = told_in(there, command)
        if command[0] != "deref":
            return (told,)
        seen = (None,) if told is None else (told, None)
        return tuple([result for result in seen if self._fits(command, result)])

    def _tokens(self):
        """The tokens that can be pending by now, rising."""
        log = self.log + (EMPTY_DRAIN,)
        state = state_behind(self._heap, log, explanation(self._heap, log, early=True))
        return tuple(sorted(pending_in(state)))

    def _fits(self, command, result):
        return late(self._heap, self.log + ((command, result),)) is not None
