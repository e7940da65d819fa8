"""How soon the words of a text are known: heights, the wait of a code, and the ring where there is none."""

from itertools import combinations

from onereading.errors import NoWait
from onereading.rests import meetings, stepped
from onereading.words import checked, left_of, shared


def heights(words):
    """The height of each rest that rows lead to; None where it is as great as one likes."""
    code = checked(words)
    met = meetings(code)
    settled = _settled(code, met)
    found = {}
    for rest in met:
        found[rest] = settled[rest][0] if rest in settled else None
    return found


def wait(words):
    """The wait of a code; None where it has none."""
    code = checked(words)
    if len(code) < 2:
        return 0
    latest = _latest(code)
    return latest[0] if latest is not None else None


def late(words):
    """Two rows with unlike first words that share just the wait; None where there are not two words."""
    code = checked(words)
    if len(code) < 2:
        return None
    latest = _latest(code)
    if latest is None:
        raise NoWait("the code has no wait")
    _, one, other = latest
    return one, other


def ring(words):
    """Two rows that meet, and the rows that lead from their rest to it again; None where there is a wait."""
    code = checked(words)
    met = meetings(code)
    settled = _settled(code, met)
    endless = [rest for rest in met if rest not in settled]
    if len(endless) == 0:
        return None
    rest = endless[0]
    # Each endless rest goes on to an endless one, so after as many steps as there are the walk goes round.
    for _ in endless:
        word = _endless_word(code, settled, rest)
        rest = stepped(rest, word)[0]
    one, other = met[rest]
    more, further = _round(code, settled, rest)
    return one, other, more, further


def _settled(code, met):
    """For each rest met that has a height this, and two rows that share it, the second one behind the rest."""
    found = {}
    left = list(met)
    while True:
        ready = [rest for rest in left if _all_settled(code, found, rest)]
        if len(ready) == 0:
            # What is left goes on for ever without leaving a ring: each step round it shares some signs more.
            return found
        for rest in ready:
            found[rest] = _highest(code, found, rest)
        left = [rest for rest in left if rest not in found]


def _all_settled(code, settled, rest):
    """Whether each rest to which a rest goes on has a height."""
    steps = [stepped(rest, word) for word in code]
    return all([step[0] in settled for step in steps if step is not None])


def _highest(code, settled, rest):
    """The height of a rest and rows that share it, from those of the rests to which it goes on."""
    best = (0, [], [])
    for word in code:
        found = _by_word(settled, rest, word)
        if found[0] > best[0]:
            best = found
    return best


def _by_word(settled, rest, word):
    """The most that rows share, the first beginning with the word and the second written behind the rest."""
    step = stepped(rest, word)
    if step is None:
        return shared(rest, word), [word], []
    left, beyond = step
    height, facing, behind = settled[left]
    if beyond:
        # The new rest belongs to the row of the word: what is behind that rest goes on with the word.
        return len(rest) + height, [word] + behind, facing
    return len(word) + height, [word] + facing, behind


def _latest(code):
    """The wait of a checked code of two words at least, and two rows that share it; None where there is none."""
    settled = _settled(code, meetings(code))
    best = (-1, [], [])
    # In the order of texts a word that another one begins with stands ahead of that.
    for start, word in combinations(code, 2):
        rest = left_of(word, start)
        if rest is None:
            found = (shared(word, start), [word], [start])
        elif rest in settled:
            height, facing, behind = settled[rest]
            found = (len(start) + height, [word] + behind, [start] + facing)
        else:
            return None
        if found[0] > best[0]:
            best = found
    return best


def _endless_word(code, settled, rest):
    """The first word by which a rest without a height goes on to one without a height."""
    steps = [(word, stepped(rest, word)) for word in code]
    endless = [word for word, step in steps if step is not None and step[0] not in settled]
    return endless[0]


def _round(code, settled, rest):
    """The words behind the one and behind the other on the way round from a rest to itself."""
    more = []
    further = []
    at = rest
    other_is_longer = False
    # Where the two rows have changed places after one round, a second one changes them back.
    while len(further) == 0 or at != rest or other_is_longer:
        word = _endless_word(code, settled, at)
        if other_is_longer:
            more.append(word)
        else:
            further.append(word)
        at, beyond = stepped(at, word)
        if beyond:
            other_is_longer = not other_is_longer
    return more, further
