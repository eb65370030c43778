"""Walks from a first thing to all that come behind it, by the bits of the inputs."""


class Walk:
    """What is met from a first thing on: each thing once, numbered, with the bits that first led to it."""

    def __init__(self, first):
        self.met = [first]
        self.numbers = {first: 0}
        self.ways = [(0, ())]

    def meet(self, thing, ahead, bits):
        """The number of a thing to which bits lead from the one of the number ahead; a new one is taken in."""
        if thing not in self.numbers:
            self.numbers[thing] = len(self.met)
            self.met.append(thing)
            self.ways.append((ahead, bits))
        return self.numbers[thing]

    def bits_to(self, number):
        """The bits that lead from the first thing to the one of that number, a tuple for each step: a new list."""
        # Whoever goes through the things met in their order, and at each one through the bits in theirs,
        # meets each thing by as few steps as can be, and by the first such bits as sorted.
        told = []
        while number > 0:
            number, bits = self.ways[number]
            told.append(bits)
        return told[::-1]


def both_steps(ones, others):
    """Two lists of steps side by side: for all bits, in order, both bits told and the pair of what comes behind."""
    return [(bit, others_bit, (after, others_after)) for (bit, after), (others_bit, others_after) in zip(ones, others)]


def words_of(many, columns):
    """The words of so many inputs whose bits, from the lowest up, are told by columns: a new list."""
    words = [0] * many
    for place, bits in enumerate(columns):
        for at, bit in enumerate(bits):
            words[at] += bit << place
    return words
