"""The lines of journals, as they are written and read (sections 39 and 40 of the document).

Each kind of argument has a function that writes it as a list of words, and one
that reads it from a list of words and returns None if nothing is written so.
"""

from lasttext.errors import BadProgram
from lasttext.programtexts import read_program, write_program
from lasttext.words import is_name, read_numbers

BEGINNING = "studio"
BRANCH_BOUNDS = (0, 5)
PLACE_BOUNDS = (0, 8)
SEED_BOUNDS = (0, 1000000)
ENTRY_BOUNDS = (-9999999, 9999999)
WEIGHT_BOUNDS = (0, 100)
STEPS_AND_BATCH_BOUNDS = ((1, 48), (1, 8))
SETTINGS_BOUNDS = ((0, 1000), (1, 20), (0, 1000), (0, 1000), (0, 9))
MOST_ROWS = 6
MOST_COLUMNS = 6
MOST_WEIGHTS = 4


def written_number(number):
    return [str(number)]


def written_name(name):
    return [name]


def written_matrix(matrix):
    return [";".join([",".join([str(entry) for entry in row]) for row in matrix])]


def written_matrices(matrices):
    return [written_matrix(matrix)[0] for matrix in matrices]


def written_segment(segment):
    steps, batch, weights, settings = segment
    words = [str(steps), str(batch), ",".join([str(weight) for weight in weights])]
    words.extend([str(number) for number in settings])
    return words


def written_program(program):
    return [write_program(program).replace(" ", "_").replace("\n", "/")]


def read_branch(words):
    return read_one(words, BRANCH_BOUNDS)


def read_place(words):
    return read_one(words, PLACE_BOUNDS)


def read_seed(words):
    return read_one(words, SEED_BOUNDS)


def read_one(words, bounds):
    """The integer that is the only word, or None."""
    numbers = read_numbers(words, (bounds,))
    return None if numbers is None else numbers[0]


def read_list(word, bounds, most):
    """The tuple of the integers between the commas of a word, at most so many, or None."""
    parts = word.split(",")
    return None if len(parts) > most else read_numbers(parts, (bounds,) * len(parts))


def read_name(words):
    return words[0] if len(words) == 1 and is_name(words[0]) else None


def read_matrix(words):
    if len(words) != 1:
        return None
    rows = [read_list(part, ENTRY_BOUNDS, MOST_COLUMNS) for part in words[0].split(";")]
    if len(rows) > MOST_ROWS or None in rows:
        return None
    if any([len(row) != len(rows[0]) for row in rows]):
        return None
    return tuple(rows)


def read_matrices(words):
    matrices = [read_matrix([word]) for word in words]
    return None if None in matrices else tuple(matrices)


def read_segment(words):
    sizes = read_numbers(words[:2], STEPS_AND_BATCH_BOUNDS)
    settings = read_numbers(words[3:], SETTINGS_BOUNDS)
    if sizes is None or settings is None:
        return None
    weights = read_list(words[2], WEIGHT_BOUNDS, MOST_WEIGHTS)
    return None if weights is None else (*sizes, weights, settings)


def read_program_word(words):
    if len(words) != 1:
        return None
    try:
        return read_program(words[0].replace("_", " ").replace("/", "\n"))
    except BadProgram:
        return None


WRITERS = {
    "branch": written_number,
    "place": written_number,
    "seed": written_number,
    "name": written_name,
    "matrix": written_matrix,
    "matrices": written_matrices,
    "segment": written_segment,
    "program": written_program,
}

READERS = {
    "branch": read_branch,
    "place": read_place,
    "seed": read_seed,
    "name": read_name,
    "matrix": read_matrix,
    "matrices": read_matrices,
    "segment": read_segment,
    "program": read_program_word,
}

# The kinds of the arguments behind the branch, for each call.
CALLS = {
    "put_source": ("name", "seed"),
    "drop_source": ("name",),
    "set_seed": ("name", "seed"),
    "put_document": ("name", "name", "matrices"),
    "drop_document": ("name", "name"),
    "put_segment": ("place", "segment"),
    "set_segment": ("place", "segment"),
    "drop_segment": ("place",),
    "set_start": ("name", "matrix"),
    "set_program": ("program", "matrices"),
    "put_test": ("name", "matrices"),
    "drop_test": ("name",),
    "fork": (),
    "undo": (),
    "redo": (),
    "take_over": ("branch",),
}

# These kinds take all the words that are left; each other one takes one word.
LONG_KINDS = ("matrices", "segment")


def written_beginning(program, start):
    return " ".join([BEGINNING, *written_arguments(("program", "matrices"), (program, start))])


def written_call(name, branch, arguments):
    """The line of a call."""
    return " ".join([name, str(branch), *written_arguments(CALLS[name], arguments)])


def written_arguments(kinds, arguments):
    words = []
    for kind, argument in zip(kinds, arguments):
        writer = WRITERS[kind]
        words.extend(writer(argument))
    return words


def read_beginning(line):
    """The pair of the program and the start, or None if no beginning is written so."""
    words = line.split(" ")
    return read_arguments(("program", "matrices"), words[1:]) if words[0] == BEGINNING else None


def read_call(line):
    """The name, the branch and the arguments of a call, or None if no call is written so."""
    words = line.split(" ")
    kinds = CALLS.get(words[0])
    branch = read_branch(words[1:2])
    if kinds is None or branch is None:
        return None
    arguments = read_arguments(kinds, words[2:])
    return None if arguments is None else (words[0], branch, arguments)


def read_arguments(kinds, words):
    """The tuple of the arguments of these kinds, or None."""
    rest = words
    arguments = []
    for kind in kinds:
        taken = rest if kind in LONG_KINDS else rest[:1]
        rest = rest[len(taken) :]
        reader = READERS[kind]
        argument = reader(taken)
        if argument is None:
            return None
        arguments.append(argument)
    return tuple(arguments) if rest == [] else None
