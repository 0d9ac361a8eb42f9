"""Frames: tuples of a number of worlds and an ascending tuple of pairs of worlds."""


def is_frame(frame):
    """Whether a value is a frame."""
    if not isinstance(frame, tuple) or len(frame) != 2:
        return False
    worlds, pairs = frame
    if not _is_integer(worlds) or worlds < 1 or not isinstance(pairs, tuple):
        return False
    for pair in pairs:
        if not _is_pair(pair, worlds):
            return False
    for k in range(1, len(pairs)):
        if pairs[k - 1] >= pairs[k]:
            return False
    return True


def _is_pair(pair, worlds):
    if not isinstance(pair, tuple) or len(pair) != 2:
        return False
    v, w = pair
    return _is_integer(v) and _is_integer(w) and 0 <= v < worlds and 0 <= w < worlds


def _is_integer(value):
    return isinstance(value, int) and not isinstance(value, bool)


def rows_of(frame):
    """The dict from each world that sees some world to the ascending list of those that it sees."""
    rows = {}
    for v, w in frame[1]:
        rows.setdefault(v, []).append(w)
    return rows


def reached(rows, start):
    """The ascending list of the worlds that are reached from one in one or more steps."""
    found = {}
    waiting = [start]
    while waiting:
        v = waiting.pop()
        for w in rows.get(v, []):
            if w not in found:
                found[w] = True
                waiting.append(w)
    return sorted(found)


def closed(frame, reflexive, transitive):
    """The frame with the fewest additional pairs that has the properties that are asked for."""
    worlds, _ = frame
    rows = rows_of(frame)
    if transitive:
        rows = {v: reached(rows, v) for v in rows}
    pairs = [(v, w) for v, row in rows.items() for w in row]
    if reflexive:
        pairs = pairs + [(v, v) for v in range(worlds)]
    return (worlds, tuple(sorted(set(pairs))))
