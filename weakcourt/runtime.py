"""A program and its collector, which take turns."""

from weakcourt.commands import do
from weakcourt.errors import CommandFault
from weakcourt.states import giving_up, greatest_in, starting


class Runtime:
    """A run: its state, the observations of the program, and what was condemned ahead of each."""

    def __init__(self, heap):
        self.state = starting(heap)
        self.log = ()
        self.condemned = ()
        # What was condemned since the last observation.
        self._lately = ()

    def execute(self, command):
        """The result of the program's command; raises CommandFault, and then nothing has changed."""
        behind, result = do(self.state, command)
        self.state = behind
        self.log = self.log + ((command, result),)
        self.condemned = self.condemned + (tuple(sorted(set(self._lately))),)
        self._lately = ()
        return result

    def condemn(self, numbers):
        """Whether the set was condemned, as it was one of objects and condemnable."""
        behind = giving_up(self.state, numbers)
        if behind is None:
            return False
        self.state = behind
        self._lately = self._lately + tuple(numbers)
        return True

    def collect(self, candidates):
        """The greatest condemnable set of the candidates, rising, which was condemned."""
        numbers = greatest_in(self.state, candidates)
        self.condemn(numbers)
        return numbers


def run(heap, script):
    """The results of the commands, those of a collector among them, one after the other."""
    runtime = Runtime(heap)
    results = []
    for command in script:
        results.append(result_in(runtime, command))
    return tuple(results)


def result_in(runtime, command):
    """The result of the command, which is done."""
    if command[0] == "condemn":
        return runtime.condemn(command[1])
    if command[0] == "collect":
        return runtime.collect(command[1])
    try:
        return runtime.execute(command)
    except CommandFault as fault:
        return ("fault", fault.reason)
