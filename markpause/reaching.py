"""Which places can be come to."""


def reach(rows, starts):
    """All places that can be come to from the starts (these too), rising, each once."""
    found = set()
    # A list of its own rather than recursion: chains may be longer than calls may be deep.
    waiting = list(starts)
    while waiting:
        place = waiting.pop()
        # A place may wait several times: it is told twice, or come to by two ways.
        if place not in found:
            found.add(place)
            for other in rows[place]:
                if other is not None:
                    waiting.append(other)
    return sorted(found)
