"""Which of the open marks are carried out: the weightiest that do not gainsay one another."""

from proofmarks.asks import gainsay


def agrees_with_all(marks, number, chosen):
    """Whether a mark gainsays none of the chosen ones."""
    return all([not gainsay(marks[number], marks[other]) for other in chosen])


def agreeing_sets(marks, numbers):
    """All sets of these marks in which no two gainsay one another.

    Of two sets the one that has the earliest mark in which they differ comes first.
    """
    sets = [[]]
    for number in numbers:
        grown = []
        for chosen in sets:
            if agrees_with_all(marks, number, chosen):
                grown.append(chosen + [number])
            grown.append(chosen)
        sets = grown
    return sets


def weight_of(marks, weights, numbers):
    """How much these marks weigh together, each as its reader does."""
    return sum([weights[marks[number].reader] for number in numbers])


def weightiest(marks, weights, numbers):
    """The set of these marks that is to be carried out, in order."""
    best = []
    for chosen in agreeing_sets(marks, numbers):
        # Of sets that weigh the same the first one stays: it has the earliest mark in which they differ.
        if weight_of(marks, weights, chosen) > weight_of(marks, weights, best):
            best = chosen
    return best
