"""Logs: what they tell of the registers, and which sets explain them."""

from weakcourt.heaps import numbers_of, registers_of
from weakcourt.observations import LOADING, MAKING, behind_observation, is_whole, loaded
from weakcourt.shapes import is_heap, is_log, is_rising
from weakcourt.states import giving_up, starting


def registers_after(heap, log):
    """The registers at first and behind each observation, as far as the log tells them."""
    rows = [registers_of(heap)]
    for command, result in log:
        registers = rows[-1]
        if command[0] in LOADING:
            to = command[1]
            registers = registers[:to] + (loaded(command, result),) + registers[to + 1:]
        rows.append(registers)
    return tuple(rows)


def candidates(heap, log, place):
    """The objects, rising, that are in no register ahead of the observation or later."""
    made = [result for command, result in log[:place] if command[0] in MAKING and is_whole(result)]
    busy = {held: True for registers in registers_after(heap, log)[place:] for held in registers}
    there = sorted(set(list(numbers_of(heap)) + made))
    return tuple([number for number in there if number not in busy])


def explains(heap, log, sets):
    """Whether the sets, one ahead of each observation, explain the log; False for whatever else."""
    if not is_heap(heap) or not is_log(heap, log) or not are_sets(sets):
        return False
    return len(sets) == len(log) and state_behind(heap, log, sets) is not None


def are_sets(sets):
    """Whether anything is a tuple of rising tuples of numbers."""
    return type(sets) == tuple and all([is_rising(numbers) for numbers in sets])


def state_behind(heap, log, sets):
    """The state behind the log with these sets ahead of its observations, None if they do not explain it."""
    state = starting(heap)
    for numbers, observation in zip(sets, log):
        state = giving_up(state, numbers)
        if state is not None:
            state = behind_observation(state, observation)
        if state is None:
            return None
    return state
