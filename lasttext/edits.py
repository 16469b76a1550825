"""Texts of runs and their edits (sections 23, 27 and 28 of the document).

A text is the tuple `(program, start, sources, segments, tests)`. Sources,
documents, tests and params are tuples whose first part is their name.
"""

from lasttext.errors import Refused
from lasttext.matrices import shape_of
from lasttext.runs import steps_of

MOST_SOURCES = 4
MOST_DOCUMENTS = 12
MOST_SEGMENTS = 8
MOST_STEPS = 48
MOST_TESTS = 12


def new_text(program, start):
    """The text without sources, segments and tests."""
    if not fits(program[0], start):
        raise Refused("start")
    return (program, start, (), (), ())


def put_source(text, name, seed):
    program, start, sources, segments, tests = text
    if place_of(name, sources) is not None:
        raise Refused("source exists")
    if len(sources) >= MOST_SOURCES:
        raise Refused("too many sources")
    widened = [(steps, batch, (*weights, 0), settings) for steps, batch, weights, settings in segments]
    return (program, start, (*sources, (name, seed, ())), tuple(widened), tests)


def drop_source(text, name):
    program, start, sources, segments, tests = text
    at = source_place(text, name)
    if in_use(segments, at):
        raise Refused("source in use")
    narrowed = [(steps, batch, without(weights, at), settings) for steps, batch, weights, settings in segments]
    return (program, start, without(sources, at), tuple(narrowed), tests)


def set_seed(text, name, seed):
    at = source_place(text, name)
    return with_source(text, at, (name, seed, text[2][at][2]))


def put_document(text, source, name, matrices):
    at = source_place(text, source)
    documents = text[2][at][2]
    if place_of(name, documents) is None and len(documents) >= MOST_DOCUMENTS:
        raise Refused("too many documents")
    if not fits(text[0][1], matrices):
        raise Refused("document")
    return with_source(text, at, (source, text[2][at][1], with_document(documents, name, matrices)))


def drop_document(text, source, name):
    at = source_place(text, source)
    documents = text[2][at][2]
    place = document_place(documents, name)
    if len(documents) == 1 and in_use(text[3], at):
        raise Refused("source in use")
    return with_source(text, at, (source, text[2][at][1], without(documents, place)))


def put_segment(text, place, segment):
    segments = text[3]
    if place < 0 or place > len(segments):
        raise Refused("no segment")
    if len(segments) >= MOST_SEGMENTS:
        raise Refused("too many segments")
    return with_segment(text, segments[:place], segment, segments[place:])


def set_segment(text, place, segment):
    check_place(text, place)
    return with_segment(text, text[3][:place], segment, text[3][place + 1 :])


def drop_segment(text, place):
    check_place(text, place)
    return (*text[:3], without(text[3], place), text[4])


def set_start(text, param, matrix):
    program, start = text[:2]
    at = place_of(param, program[0])
    if at is None:
        raise Refused("no param")
    if not fits((program[0][at],), (matrix,)):
        raise Refused("start")
    return (program, with_item(start, at, matrix), *text[2:])


def set_program(text, program, start):
    if not fits(program[0], start):
        raise Refused("start")
    sources, segments, tests = text[2:]
    documents = list(tests)
    for source in sources:
        documents.extend(source[2])
    if not all([fits(program[1], document[1]) for document in documents]):
        raise Refused("document")
    return (program, start, sources, segments, tests)


def put_test(text, name, matrices):
    tests = text[4]
    if place_of(name, tests) is None and len(tests) >= MOST_TESTS:
        raise Refused("too many tests")
    if not fits(text[0][1], matrices):
        raise Refused("document")
    return (*text[:4], with_document(tests, name, matrices))


def drop_test(text, name):
    place = document_place(text[4], name)
    return (*text[:4], without(text[4], place))


EDITS = {
    "put_source": put_source,
    "drop_source": drop_source,
    "set_seed": set_seed,
    "put_document": put_document,
    "drop_document": drop_document,
    "put_segment": put_segment,
    "set_segment": set_segment,
    "drop_segment": drop_segment,
    "set_start": set_start,
    "set_program": set_program,
    "put_test": put_test,
    "drop_test": drop_test,
}


def edited(text, name, arguments):
    """The text that the edit with this name returns."""
    action = EDITS[name]
    return action(text, *arguments)


def first_changed(old, new):
    """The number of the first state that can differ between two runs, or None."""
    if old[:2] != new[:2]:
        return 0
    old_steps, new_steps = steps_of(old), steps_of(new)
    for number, (first, second) in enumerate(zip(old_steps, new_steps), start=1):
        if first != second:
            return number
    if len(old_steps) != len(new_steps):
        return min(len(old_steps), len(new_steps)) + 1
    return None


def fits(leaves, matrices):
    """Whether the matrices have the shapes of these params or inputs."""
    return [(rows, columns) for _, rows, columns in leaves] == [shape_of(matrix) for matrix in matrices]


def place_of(name, things):
    """The index of the thing with this name, or None."""
    for at, thing in enumerate(things):
        if thing[0] == name:
            return at
    return None


def source_place(text, name):
    at = place_of(name, text[2])
    if at is None:
        raise Refused("no source")
    return at


def document_place(documents, name):
    at = place_of(name, documents)
    if at is None:
        raise Refused("no document")
    return at


def check_place(text, place):
    if place < 0 or place >= len(text[3]):
        raise Refused("no segment")


def in_use(segments, source):
    return any([weights[source] > 0 for _, _, weights, _ in segments])


def with_item(things, at, thing):
    return (*things[:at], thing, *things[at + 1 :])


def without(things, at):
    return (*things[:at], *things[at + 1 :])


def with_source(text, at, source):
    return (*text[:2], with_item(text[2], at, source), *text[3:])


def with_document(documents, name, matrices):
    at = place_of(name, documents)
    if at is None:
        return (*documents, (name, matrices))
    return with_item(documents, at, (name, matrices))


def with_segment(text, before, segment, behind):
    """The text whose segments are these, if the new one among them is right."""
    weights = segment[2]
    sources = text[2]
    if len(weights) != len(sources) or all([weight == 0 for weight in weights]):
        raise Refused("weights")
    if any([weight > 0 and source[2] == () for weight, source in zip(weights, sources)]):
        raise Refused("source empty")
    segments = (*before, segment, *behind)
    if step_count(segments) > MOST_STEPS:
        raise Refused("too many steps")
    return (*text[:3], segments, text[4])


def step_count(segments):
    """The number of steps of all segments together."""
    return sum([segment[0] for segment in segments])
