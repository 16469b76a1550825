"""Tree sums, and how weights go on by gradients (sections 20 to 22 of the document)."""

from lasttext.lines import LineWriter, run_lines
from lasttext.matrices import filled, shape_of

# Momentum and decay are parts of 2 ** 10.
PART_SHIFT = 10


def sum_tree(matrices):
    """The tree sum, or None if an addition faults, and the number of additions that were asked."""
    count = len(matrices)
    writer = SettingsWriter(count)
    whole = writer.write_sum(list(range(count)))
    outputs, asked = run_lines(matrices, writer.lines, (whole,))
    return (None if outputs is None else outputs[0], len(asked))


def advance(settings, weight, momentum, residue, gradient):
    """The new weight, momentum and residue of a param, or None if an operation faults."""
    matrices = (weight, momentum, residue, gradient)
    writer = SettingsWriter(len(matrices))
    outputs = writer.write_advance(settings, 0, 1, 2, 3)
    return run_lines(matrices, writer.lines, outputs)[0]


def send(coarse, gradients):
    """What is sent of gradients one after the other, and the last residue; None if an operation faults."""
    count = len(gradients)
    writer = SettingsWriter(count + 1)
    residue = count
    sent = []
    for gradient in range(count):
        part, residue = writer.write_sent(coarse, residue, gradient)
        sent.append(part)
    rows, columns = shape_of(gradients[0])
    matrices = (*gradients, filled(rows, columns, 0))
    outputs = run_lines(matrices, writer.lines, (*sent, residue))[0]
    return None if outputs is None else (outputs[:-1], outputs[-1])


class SettingsWriter(LineWriter):
    """A line program with tree sums and the operations of settings."""

    def write_sum(self, values):
        """The tree sum of values; returns its number."""
        if len(values) == 1:
            return values[0]
        half = (len(values) + 1) // 2
        first = self.write_sum(values[:half])
        second = self.write_sum(values[half:])
        return self.write("add", (), (first, second))

    def write_advance(self, settings, weight, momentum, residue, gradient):
        """Returns the numbers of the new weight, momentum and residue."""
        rate, shift, kept, decay, coarse = settings
        sent, new_residue = self.write_sent(coarse, residue, gradient)
        new_momentum = sent
        if kept != 0:
            small = self.write_part(kept, PART_SHIFT, momentum)
            new_momentum = self.write("add", (), (small, sent))
        small = self.write_part(rate, shift, new_momentum)
        new_weight = self.write("sub", (), (weight, small))
        if decay != 0:
            small = self.write_part(decay, PART_SHIFT, weight)
            new_weight = self.write("sub", (), (new_weight, small))
        return (new_weight, new_momentum, new_residue)

    def write_sent(self, coarse, residue, gradient):
        """Returns the numbers of what is sent and of the new residue."""
        if coarse == 0:
            return (gradient, residue)
        whole = self.write("add", (), (gradient, residue))
        small = self.write("scale", (coarse,), (whole,))
        sent = self.write("stretch", (1 << coarse,), (small,))
        return (sent, self.write("sub", (), (whole, sent)))

    def write_part(self, factor, shift, value):
        """A value times factor / 2 ** shift; returns its number."""
        long = self.write("stretch", (factor,), (value,))
        return self.write("scale", (shift,), (long,))
