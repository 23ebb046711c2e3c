"""What marks ask of a text, and which of them gainsay one another."""

CHANGE = 0
KEEP = 1
MOVE = 2

STANDS_OPEN = 0
CARRIED_OUT = 1
LOST = 2
WITHDRAWN = 3


class Mark:
    """What a reader asks for: of the words from start up to end, of a gap, with words to be put there."""

    def __init__(self, reader, kind, start, end, gap, words):
        self.reader = reader
        self.kind = kind
        self.start = start
        self.end = end
        self.gap = gap
        self.words = words
        self.state = STANDS_OPEN
        # The number of the proof in which it was carried out or lost.
        self.closed_in = None


def change_mark(reader, start, end, words):
    return Mark(reader, CHANGE, start, end, start, list(words))


def keep_mark(reader, start, end):
    # A keep puts nothing, so it has no gap.
    return Mark(reader, KEEP, start, end, None, [])


def move_mark(reader, start, end, gap):
    # What a move puts are words of the text, so it brings none of its own.
    return Mark(reader, MOVE, start, end, gap, [])


def ask_the_same(one, other):
    """Whether two marks ask for the very same, whoever asks."""
    if one.kind != other.kind or one.gap != other.gap:
        return False
    return one.start == other.start and one.end == other.end and one.words == other.words


def lies_within(gap, start, end):
    """Whether a gap has words of those from start up to end on both sides."""
    return gap > start and gap < end


def takes_of(mark, start, end):
    """Whether a change or a move takes one of the words from start up to end."""
    return max(mark.start, start) < min(mark.end, end)


def breaks_into(mark, start, end):
    """Whether a change or a move breaks into the words from start up to end."""
    return takes_of(mark, start, end) or lies_within(mark.gap, start, end)


def gainsay(one, other):
    """Whether two marks gainsay one another."""
    if ask_the_same(one, other):
        return False
    if one.kind == KEEP and other.kind == KEEP:
        return False
    if one.kind == KEEP:
        return breaks_into(other, one.start, one.end)
    if other.kind == KEEP:
        return breaks_into(one, other.start, other.end)
    # A change without words puts into its gap too: the document leaves none out.
    if one.gap == other.gap:
        return True
    return breaks_into(one, other.start, other.end) or breaks_into(other, one.start, one.end)


def clashing_pairs(marks, numbers):
    """The pairs of these marks that gainsay one another, as (lesser number, greater number)."""
    pairs = []
    for lesser in numbers:
        for greater in numbers:
            if lesser < greater and gainsay(marks[lesser], marks[greater]):
                pairs.append((lesser, greater))
    return pairs


def asked_by(mark):
    """What a mark asks for, told number by number."""
    asked = [mark.kind, mark.start, mark.end]
    if mark.kind == CHANGE:
        return asked + [len(mark.words)] + mark.words
    if mark.kind == MOVE:
        return asked + [mark.gap]
    return asked
