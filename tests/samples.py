"""Programs and texts of runs that several tests use."""

from lasttext.errors import Refused
from lasttext.programtexts import read_program
from lasttext.studio import Studio
from tests.test_back import deep_program, matrix

EXAMPLE = read_program("param w 1 1\ninput x 1 1\ny = times w x\nloss y\n")
PLAIN = (1, 1, 0, 0, 0)
FULL = (3, 2, 512, 1, 1)

# Two layers: the loss is the sum of the squares of what is off.
LAYERS = read_program(
    "param w 2 2\nparam b 2 1\nparam v 1 2\ninput x 2 1\ninput t 1 1\n"
    "a = product w x\nc = add a b\nd = positive c\ne = product v d\nf = sub e t\ng = times f f\nloss g\n"
)
# A table whose rows are picked; the input `rest` is not needed for anything.
PICKS = read_program(
    "param t 3 2\nparam k 1 1\ninput ids 2 1\ninput rest 2 2\n"
    "p = pick t ids\ns = total p\nm = times s k\nu = add rest rest\nloss m\n"
)
# Neither the loss nor a gradient needs the input.
ALONE = read_program("param w 1 1\ninput x 1 1\ny = stretch w 3\nz = times x x\nloss y\n")
# The loss is a param.
BARE = read_program("param w 1 1\nloss w\n")
# The loss is an input.
GIVEN = read_program("param w 1 1\ninput x 1 1\nloss x\n")


def cell(entry):
    return ((entry,),)


def cells(*entries):
    """Documents d0, d1, .. of one cell each."""
    return tuple((f"d{k}", (cell(entry),)) for k, entry in enumerate(entries))


def example(entries, segments, start=2, program=EXAMPLE, tests=()):
    """A text of a program with one param and one input, both cells, and with one source."""
    sources = (("a", 5, cells(*entries)),)
    return (program, (cell(start),), sources, segments, tests)


def random_inputs(program, chance, most):
    """Matrices for the inputs, of small numbers of rows or of entries up to `most`."""
    return tuple(
        tuple(tuple(chance.randint(0, 1) for _ in range(columns)) for _ in range(rows))
        if chance.random() < 0.6 else matrix(rows, columns, chance, most)
        for _, rows, columns in program[1]
    )


def random_program(chance):
    return chance.choice((EXAMPLE, LAYERS, LAYERS, PICKS, PICKS, ALONE, BARE, GIVEN, deep_program(chance)))


def random_start(program, chance, most):
    return tuple(matrix(rows, columns, chance, most) for _, rows, columns in program[0])


def random_settings(chance):
    return (
        chance.randint(0, 60), chance.randint(1, 12), chance.choice((0, 300, 900)),
        chance.choice((0, 0, 20)), chance.choice((0, 0, 3)),
    )


def random_segment(text, chance, most=4):
    """A segment that may or may not be right for a text."""
    weights = tuple(chance.choice((0, 1, 1, 3)) if source[2] else 0 for source in text[2])
    return (chance.randint(1, most), chance.randint(1, 4), weights, random_settings(chance))


def random_edit(text, chance):
    """The name and the arguments of an edit that may be refused."""
    most = chance.choice((3, 3, 40, 9000000))
    program = text[0]
    name = chance.choice(("a", "b", "c", "e1", "zz"))
    document = f"d{chance.randint(0, 4)}"
    place = chance.randint(0, 3)
    kind = chance.choice((
        "put_source", "drop_source", "set_seed", "put_document", "put_document", "put_document", "drop_document",
        "put_segment", "put_segment", "set_segment", "drop_segment", "set_start", "set_program",
        "put_test", "put_test", "drop_test",
    ))
    inputs = random_inputs(program, chance, most)
    if kind == "set_program" and chance.random() < 0.6:
        return ("set_program", (program, random_start(program, chance, most)))
    other = random_program(chance)
    param = chance.choice(program[0])
    return (kind, {
        "put_source": (name, chance.randint(0, 1000000)),
        "drop_source": (name,),
        "set_seed": (name, chance.randint(0, 1000000)),
        "put_document": (name, document, inputs),
        "drop_document": (name, document),
        "put_segment": (place, random_segment(text, chance)),
        "set_segment": (place, random_segment(text, chance)),
        "drop_segment": (place,),
        "set_start": (param[0], matrix(param[1], param[2], chance, most)),
        "set_program": (other, random_start(other, chance, most)),
        "put_test": (document, inputs),
        "drop_test": (document,),
    }[kind])


def random_studio(chance, most=3):
    """A studio whose branch 0 has sources with documents, segments and tests, so that it has steps."""
    program = random_program(chance)
    studio = Studio(program, random_start(program, chance, most))
    for name in ("a", "b")[: chance.randint(1, 2)]:
        studio.edit(0, "put_source", (name, chance.randint(0, 1000000)))
        for k in range(chance.randint(1, 4)):
            studio.edit(0, "put_document", (name, f"d{k}", random_inputs(program, chance, most)))
    for place in range(chance.randint(1, 2)):
        text = studio.text(0)
        segment = random_segment(text, chance)
        weights = tuple(max(1, weight) for weight in segment[2])
        studio.edit(0, "put_segment", (place, (*segment[:2], weights, segment[3])))
    for k in range(chance.randint(0, 3)):
        studio.edit(0, "put_test", (f"d{k}", random_inputs(program, chance, most)))
    return studio


def steps_in(text):
    return sum(segment[0] for segment in text[3])


def refusal(call, *arguments):
    """The reason by which a call is refused, or None."""
    try:
        call(*arguments)
    except Refused as error:
        return error.reason
    return None


# Each document asks 20 operations, which differ as long as the weights differ.
CHAIN = read_program(
    "param w 1 1\ninput x 1 1\ny0 = add w x\n" + "".join(f"y{k + 1} = add y{k} x\n" for k in range(19)) + "loss y19\n"
)


def full_studio(beyond):
    """A studio with so many entries that a question about step 1 of branch 0 makes 20000 + beyond of them."""
    studio = Studio(CHAIN, (cell(0),))
    studio.edit(0, "put_source", ("a", 5))
    for k in range(12):
        studio.edit(0, "put_document", ("a", f"d{k}", (cell(1009 + 2 * k),)))
    studio.edit(0, "put_segment", (0, (48, 8, (1,), PLAIN)))
    for start in (100000, 200000):
        studio.edit(0, "set_start", ("w", cell(start)))
        studio.ask(0, 48)
        # What all questions ask is dropped once, so that it does not stand among the oldest entries.
        if start == 100000:
            studio.keep_newest(len(studio.table()) - 200)
    studio.edit(0, "set_start", ("w", cell(300000)))
    step = 0
    while len(studio.table()) + studio.wanted(0, step + 1) <= 20000:
        step += 1
    studio.ask(0, step)
    studio.edit(0, "set_start", ("w", cell(400000)))
    studio.keep_newest(20000 + beyond - studio.wanted(0, 1))
    return studio
