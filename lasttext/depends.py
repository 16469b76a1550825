"""What hangs on a document (section 37 of the document).

A document is named here by the pair of its source's index and its name.
"""

from lasttext.lines import needed
from lasttext.runs import documents_of, step_lines, steps_of


def steps_with(text, document):
    """The tuple of the numbers of the steps whose documents include this one."""
    return tuple([number for number, documents in enumerate(documents_of(text), start=1) if document in documents])


def state_hangs_on(text, step, document):
    """Whether the state behind a step can depend on a document."""
    program = text[0]
    for (settings, _), documents in zip(steps_of(text)[:step], documents_of(text)):
        if document not in documents:
            continue
        used = used_values(program, settings, len(documents))
        for at, each in enumerate(documents):
            if each == document and any([value in used for value in leaves_of_inputs(program, at)]):
                return True
    return False


def leaves_of_inputs(program, at):
    """The numbers of the leaves of a step that are the inputs of its document at an index."""
    params, inputs = program[:2]
    first = 3 * len(params) + at * len(inputs)
    return list(range(first, first + len(inputs)))


def used_values(program, settings, count):
    """A dict whose keys are the values of a step that needed lines are applied to, and its outputs."""
    params, inputs = program[:2]
    lines, outputs = step_lines(program, settings, count)
    used = {value: True for value in outputs}
    for index in needed(3 * len(params) + count * len(inputs), lines, outputs):
        for value in lines[index][2]:
            used[value] = True
    return used
