"""Transcripts of steps, and disputes about them (section 38 of the document)."""

from lasttext.errors import Refused
from lasttext.lines import needed
from lasttext.matrices import operate
from lasttext.runs import run, step_leaves, step_lines, steps_of
from lasttext.tables import TableRunner


def transcript_of(text, step):
    """The results of the needed lines of a step, or None if the run faults there or before."""
    state = run(text, step - 1)
    if state[0] == "fault":
        return None
    runner = TableRunner({})
    if runner.run_step(text[0], state, steps_of(text)[step - 1]) is None:
        return None
    return tuple([runner.new[operation] for operation in runner.operations])


def judged(text, step, first, second):
    """Which of two claims about a step is right, the index where they differ, and the number of comparisons."""
    state = run(text, step - 1)
    if state[0] == "fault":
        raise Refused("not reached")
    settings, documents = steps_of(text)[step - 1]
    lines, outputs = step_lines(text[0], settings, len(documents))
    leaves = step_leaves(state, documents)
    indexes = needed(len(leaves), lines, outputs)
    if len(first) != len(indexes) or len(second) != len(indexes):
        raise Refused("claim")
    if first == second:
        return ("alike", None, 0)
    low, comparisons = first_difference(first, second)
    known = dict(enumerate(leaves))
    for index, matrix in zip(indexes[:low], first):
        known[len(leaves) + index] = matrix
    kind, numbers, values = lines[indexes[low]]
    result = operate(kind, numbers, tuple([known[value] for value in values]))
    if result == first[low]:
        return ("first", low, comparisons)
    if result == second[low]:
        return ("second", low, comparisons)
    return ("neither", low, comparisons)


def first_difference(first, second):
    """The first index at which two claims differ, and the number of comparisons that find it."""
    low = 0
    high = len(first)
    comparisons = 0
    while low + 1 < high:
        middle = (low + high) // 2
        comparisons += 1
        if first[:middle] == second[:middle]:
            low = middle
        else:
            high = middle
    return (low, comparisons)
