"""How far two texts are from each other."""


def lines_in_common(one, other):
    """How many lines can be chosen of the one text, in order, that the other has in that order."""
    # For each beginning of the other: how many it has in common with the
    # lines of the one that are gone through.
    counts = [0] * (len(other) + 1)
    for line in one:
        grown = [0]
        for place, other_line in enumerate(other):
            if line == other_line:
                grown.append(counts[place] + 1)
            else:
                grown.append(max(counts[place + 1], grown[place]))
        counts = grown
    return counts[len(other)]


def how_far(one, other):
    """The lines of both texts, less twice what they have in common."""
    return len(one) + len(other) - 2 * lines_in_common(one, other)
