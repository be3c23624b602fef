"""Sets that explain a log, made one observation after the other."""

from weakcourt.logs import candidates
from weakcourt.observations import behind_observation
from weakcourt.states import giving_up, greatest_in, starting


def explanation(heap, log, early=False, spared=()):
    """Sets without the spared objects that explain the log; None if no such sets do.

    Early is condemned whatever can be; else that, too, but only ahead of an observation that is not
    as it was seen without it. Taking the greatest set then is enough: it has all that any such sets
    have condemned by then, and what else it has is in no register from then on, so that nothing
    that is seen later asks for it.
    """
    state = starting(heap)
    sets = []
    for place, observation in enumerate(log):
        numbers = ()
        behind = None if early else behind_observation(state, observation)
        if behind is None:
            free = [number for number in candidates(heap, log, place) if number not in spared]
            numbers = greatest_in(state, free)
            behind = behind_observation(giving_up(state, numbers), observation)
        if behind is None:
            return None
        sets.append(numbers)
        state = behind
    return tuple(sets)
