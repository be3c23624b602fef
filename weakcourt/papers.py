"""Papers that show that no collector explains a log: made, and judged without a search."""

from weakcourt.commands import fault_of
from weakcourt.court import audit
from weakcourt.heaps import watches_of
from weakcourt.observations import is_same, is_tokens, is_whole
from weakcourt.playing import play, told_in
from weakcourt.shapes import has_kind, is_heap, is_log, is_tuple_of
from weakcourt.steps import ahead_of, are_steps_for, held_in, steps_for

LENGTHS = {"result": 2, "held": 3, "tokens": 4}


def plain(heap, log, place):
    """The plain heap ahead of the observation."""
    return play(heap, log[:place])


def held(heap, log, place):
    """The objects that are held ahead of the observation, rising."""
    there, later = ahead_of(heap, log, place)
    return held_in(there, later)


def is_impossible(there, observation):
    """Whether the result is not what the plain heap gives, whatever is given up."""
    command, result = observation
    if fault_of(there, command) is not None:
        return True
    if command[0] == "drain":
        return not is_tokens(result)
    if command[0] == "deref" and result is None:
        return False
    return not is_same(told_in(there, command), result)


def lost_target(there, observation):
    """The target that was seen as cleared; None if the observation is no such deref."""
    command, result = observation
    if command[0] != "deref" or result is not None or fault_of(there, command) is not None:
        return None
    return told_in(there, command)


def is_proper_drain(observation):
    """Whether it is a drain that counts tokens."""
    command, result = observation
    return command[0] == "drain" and is_tokens(result)


def drained(log):
    """The tokens that were drained, each as often as it was."""
    return [token for row in log if is_proper_drain(row) for token in row[1]]


def places_of(there, token):
    """The numbers of the watches with this token, rising."""
    return [place for place, watch in enumerate(watches_of(there)) if watch[1] == token]


def watched_by(there, place):
    """The object of the watch."""
    return watches_of(there)[place][0]


def accuse(heap, log):
    """A paper that shows that the log is not explainable; None if it is."""
    verdict = audit(heap, log)
    if verdict[0] == "explained":
        return None
    cut = log[:verdict[1] + 1]
    for place in range(len(cut)):
        paper = paper_at(heap, cut, place)
        if paper is not None:
            return paper
    # Not come to: of a log that is not explainable there is a paper.
    return None


def paper_at(heap, log, place):
    """The paper for this place that comes first by its kind, None if there is none."""
    there, later = ahead_of(heap, log, place)
    if is_impossible(there, log[place]):
        return ("result", place)
    target = lost_target(there, log[place])
    if target is not None:
        steps = steps_for(there, later, target)
        return None if steps is None else ("held", place, steps)
    if not is_proper_drain(log[place]):
        return None
    counted = drained(log[:place + 1])
    for token in sorted(set(counted)):
        papers = token_papers(there, later, token)
        if len(places_of(there, token)) - len(papers) < counted.count(token):
            return ("tokens", place, token, papers)
    return None


def token_papers(there, later, token):
    """Papers of held objects for all watches with this token whose objects are held, in order."""
    rows = [(place, steps_for(there, later, watched_by(there, place))) for place in places_of(there, token)]
    return tuple([row for row in rows if row[1] is not None])


def judge(heap, log, paper):
    """Whether the paper, which may be anything, shows that no collector explains the log."""
    if not is_heap(heap) or not is_log(heap, log) or not has_kind(paper, list(LENGTHS)):
        return False
    if len(paper) != LENGTHS[paper[0]] or not is_whole(paper[1]) or paper[1] >= len(log):
        return False
    place = paper[1]
    there, later = ahead_of(heap, log, place)
    if paper[0] == "result":
        return is_impossible(there, log[place])
    if paper[0] == "held":
        target = lost_target(there, log[place])
        return target is not None and are_steps_for(there, later, paper[2], target)
    if not is_proper_drain(log[place]) or not are_token_papers(there, later, paper[2], paper[3]):
        return False
    return len(places_of(there, paper[2])) - len(paper[3]) < drained(log[:place + 1]).count(paper[2])


def are_token_papers(there, later, token, papers):
    """Whether anything is papers of held objects for different watches with the token."""
    if not is_whole(token) or type(papers) != tuple:
        return False
    left = places_of(there, token)
    for paper in papers:
        if not is_tuple_of(paper, 2) or not is_whole(paper[0]) or paper[0] not in left:
            return False
        if not are_steps_for(there, later, paper[1], watched_by(there, paper[0])):
            return False
        left.remove(paper[0])
    return True
