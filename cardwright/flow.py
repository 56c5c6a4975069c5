"""Which places a run of code can come by (points 707 and 803)."""

JUMPS = ("jump", "zero")


def next_places(place, instruction, is_last):
    """Return the tuple of the places that may come next; is_last tells if none of the paragraph is behind this one."""
    kind = instruction[0]
    if kind == "halt" or (kind == "leave" and is_last):
        return ()
    if kind == "jump":
        return (instruction[1],)
    if kind == "zero":
        return place + 1, instruction[1]
    return (place + 1,)


def last_places(starts, many):
    """Return a dict whose keys are the places of the last instructions of the paragraphs, of so many instructions."""
    ends = [*starts[1:], many]
    return {end - 1: True for end in ends}


def reached(starts, rows):
    found = {}
    lasts = last_places(starts, len(rows))
    waiting = list(starts[:1])
    while waiting:
        place = waiting.pop()
        # Only code that the examiner refuses leads out of the instructions.
        if place in found or not 0 <= place < len(rows):
            continue
        found[place] = True
        instruction = rows[place]
        waiting.extend(next_places(place, instruction, place in lasts))
        if instruction[0] == "call":
            waiting.extend(starts[instruction[1]:instruction[2] + 1])
    return found
