"""What the cheapest writings of stretches of words cost."""


def price_of_repeat(many):
    """What a repeat costs beside its writing, of a word of so many cells."""
    return 1 if many == 1 else 2


def repeated_lengths(word):
    """The ascending list of the lengths of shorter words that a word is several times."""
    many = len(word)
    lengths = [length for length in range(1, many // 2 + 1) if many % length == 0]
    # A word that is a shorter one several times stays as it is where it is moved along itself by that one's length.
    return [length for length in lengths if word[length:] == word[:many - length]]


def stretch_costs(word, most):
    """A dict from the pairs (low, high) of places of a word, of stretches up to so many cells, to their least costs."""
    table = {}
    # For each place the costs of the stretches that begin there, and that end there, by ascending lengths.
    begun = [[] for _ in word]
    ended = [[] for _ in range(len(word) + 1)]
    for many in range(1, most + 1):
        for low in range(len(word) - many + 1):
            high = low + many
            costs = [here + there for here, there in zip(begun[low], ended[high][::-1])]
            lengths = repeated_lengths(word[low:high])
            costs.extend([table[(low, low + length)] + price_of_repeat(length) for length in lengths])
            best = min(costs, default=1)
            table[(low, high)] = best
            begun[low].append(best)
            ended[high].append(best)
    return table
