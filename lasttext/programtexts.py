"""The texts of programs (sections 8 and 9 of the document)."""

from lasttext.errors import BadProgram
from lasttext.matrices import CELL, MATRIX_COUNTS
from lasttext.programs import STEP_KINDS, step_shape
from lasttext.words import is_name, read_numbers

MOST_LINES = 24
MOST_PARAMS = 6
MOST_INPUTS = 4
SIZE_BOUNDS = ((1, 6), (1, 6))
NUMBER_BOUNDS = {"spread": ((1, 6), (1, 6)), "stretch": ((-1000, 1000),)}


def write_program(program):
    """The text of a program."""
    params, inputs, steps, loss = program
    names = [value[0] for value in (*params, *inputs, *steps)]
    lines = [f"param {name} {rows} {columns}" for name, rows, columns in params]
    lines.extend([f"input {name} {rows} {columns}" for name, rows, columns in inputs])
    lines.extend([written_step(step, names) for step in steps])
    lines.append(f"loss {names[loss]}")
    return "".join([f"{line}\n" for line in lines])


def written_step(step, names):
    name, kind, values, numbers = step
    words = [name, "=", kind]
    words.extend([names[value] for value in values])
    words.extend([str(number) for number in numbers])
    return " ".join(words)


def read_program(text):
    """The program whose text this is; raises BadProgram if there is none."""
    lines = text.split("\n")
    rest = lines.pop()
    count = len(lines) if rest == "" else len(lines) + 1
    # Too long a text is wrong as a whole, whatever its lines are.
    if count > MOST_LINES:
        raise BadProgram(MOST_LINES + 1)
    draft = Draft()
    for number, line in enumerate(lines, start=1):
        if not draft.take_line(line):
            raise BadProgram(number)
    if rest != "" or draft.loss is None:
        raise BadProgram(len(lines) + 1)
    return draft.program()


class Draft:
    """A program as far as its lines have been read.

    The methods `take_..` take one more line, and return False, without a
    change, if it cannot stand behind the lines before it. A step and the loss
    name a declared value, so that they stand behind a param without a test.
    """

    def __init__(self):
        self.params = []
        self.inputs = []
        self.steps = []
        self.loss = None
        # The number of the value of each declared name, and the shapes of the values.
        self.names = {}
        self.shapes = []

    def program(self):
        return (tuple(self.params), tuple(self.inputs), tuple(self.steps), self.loss)

    def take_line(self, line):
        words = line.split(" ")
        if self.loss is not None:
            return False
        if words[1:2] == ["="]:
            return self.take_step(words)
        if words[0] == "param":
            return self.take_param(words)
        if words[0] == "input":
            return self.take_input(words)
        if words[0] == "loss":
            return self.take_loss(words)
        return False

    def take_param(self, words):
        if len(self.params) >= MOST_PARAMS or len(self.inputs) > 0 or len(self.steps) > 0:
            return False
        return self.take_leaf(words, self.params)

    def take_input(self, words):
        if len(self.params) == 0 or len(self.inputs) >= MOST_INPUTS or len(self.steps) > 0:
            return False
        return self.take_leaf(words, self.inputs)

    def take_leaf(self, words, leaves):
        """Take a param or an input into the list of those before it."""
        sizes = read_numbers(words[2:], SIZE_BOUNDS)
        if sizes is None or not self.is_new(words[1]):
            return False
        leaves.append((words[1], *sizes))
        self.declare(words[1], sizes)
        return True

    def take_step(self, words):
        step = self.read_step(words)
        if step is None:
            return False
        first = len(self.params)
        input_numbers = list(range(first, first + len(self.inputs)))
        shape = step_shape(step, self.shapes, input_numbers)
        if shape is None:
            return False
        self.steps.append(step)
        self.declare(words[0], shape)
        return True

    def take_loss(self, words):
        if len(words) != 2:
            return False
        number = self.names.get(words[1])
        if number is None or self.shapes[number] != CELL:
            return False
        self.loss = number
        return True

    def read_step(self, words):
        """The step of a line whose second word is `=`, whether it fits or not, or None."""
        if len(words) < 3 or words[2] not in STEP_KINDS or not self.is_new(words[0]):
            return None
        kind = words[2]
        end = 3 + MATRIX_COUNTS[kind]
        values = [self.names.get(word) for word in words[3:end]]
        numbers = read_numbers(words[end:], NUMBER_BOUNDS.get(kind, ()))
        if len(words) < end or None in values or numbers is None:
            return None
        return (words[0], kind, tuple(values), numbers)

    def is_new(self, name):
        return is_name(name) and name not in self.names

    def declare(self, name, shape):
        self.names[name] = len(self.shapes)
        self.shapes.append(shape)
