"""The order of documents, and the turns of sources (sections 17 to 19 of the document)."""

MODULUS = 1000003


def rank(seed, round_number, name):
    """The rank of a name in a round."""
    h = (seed * 7919 + round_number * 104729 + 12345) % MODULUS
    for character in name:
        h = (h * 131 + ord(character) + 7) % MODULUS
    return (h * h + 3 * h + 1) % MODULUS


def order(seed, round_number, names):
    """The tuple of the names in the order of their ranks in a round."""
    return tuple(sorted(names, key=lambda name: (rank(seed, round_number, name), name)))


def shares(weights, count):
    """The tuple of the sources that give in the first `count` turns."""
    whole = sum(weights)
    held = [0] * len(weights)
    givers = []
    for _ in range(count):
        held = [credit + weight for credit, weight in zip(held, weights)]
        giver = held.index(max(held))
        held[giver] -= whole
        givers.append(giver)
    return tuple(givers)
