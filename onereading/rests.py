"""What is left over where two rows meet: how it goes on, and the shortest text with two partings."""

from heapq import heappop, heappush

from onereading.words import checked, left_of


def stepped(rest, word):
    """The rest to which a rest goes on by a word, and whether the word goes beyond; None where it does not."""
    left = left_of(rest, word)
    if left is not None:
        return left, False
    left = left_of(word, rest)
    if left is not None:
        return left, True
    return None


def least(words):
    """The least of each rest that rows lead to."""
    found = {}
    for rest, (one, _) in meetings(checked(words)).items():
        found[rest] = len("".join(one))
    return found


def double(words):
    """A shortest text with two partings, and both of them, the one ahead first; None where there is none."""
    met = meetings(checked(words))
    if "" not in met:
        return None
    one, other = met[""]
    text = "".join(one)
    # Both first words begin the same text and are unlike, so one of them is the shorter.
    if len(one[0]) < len(other[0]):
        return text, one, other
    return text, other, one


def meetings(code):
    """For each rest to which rows of a checked code lead, two rows that meet there, the one as short as any."""
    found = {}
    queue = []
    for length, rest, one, other in _first_meetings(code):
        heappush(queue, (length, rest, one, other))
    # The shortest is always taken first, and no step makes it shorter: so the first pair at a rest has its least.
    while queue:
        length, rest, one, other = heappop(queue)
        if rest not in found:
            found[rest] = (one, other)
            for further in _further_meetings(code, length, rest, one, other):
                heappush(queue, further)
    return found


def _first_meetings(code):
    """The meetings of two words alone: the length of the one, the rest, the one and the other."""
    found = []
    for word in code:
        for start in code:
            rest = left_of(word, start)
            if rest is not None and word != start:
                found.append((len(word), rest, [word], [start]))
    return found


def _further_meetings(code, length, rest, one, other):
    """The meetings to which this one goes on, each by a word behind the other row."""
    found = []
    for word in code:
        step = stepped(rest, word)
        if step is not None:
            left, beyond = step
            if beyond:
                # The row that was behind is the longer one now.
                found.append((length + len(left), left, other + [word], one))
            else:
                found.append((length, left, one, other + [word]))
    return found
