"""What a log tells of the events that began."""


def scenes(log):
    """For each begin and call a tuple: its row, how many events were open, and the innermost of them or None."""
    told = []
    around = []
    for row in log:
        if row[0] in ("begin", "call"):
            told.append((row, len(around), around[-1] if len(around) > 0 else None))
        if row[0] == "begin":
            around.append(row[1])
        elif row[0] == "end":
            around.pop()
    return told


def begun(log):
    """The numbers of the events in the order in which they began."""
    return [row[1] for row in log if row[0] == "begin"]


def inside(log):
    """For each event that began a pair: its number, and the event that was innermost open then, or None."""
    return [(row[1], innermost) for row, _, innermost in scenes(log) if row[0] == "begin"]


def turns(log):
    """For each event that began while none was open a list: its number, and those that began within it."""
    told = []
    for number, innermost in inside(log):
        if innermost is None:
            told.append([number])
        else:
            told[-1].append(number)
    return told


def drawn(log, events):
    """A text for each begin and call, two blanks to the right for each event that was open then."""
    texts = []
    for row, depth, _ in scenes(log):
        shown = f"{row[1]} {events[row[1]][0]}" if row[0] == "begin" else f"- {row[2]}"
        texts.append("  " * depth + shown)
    return texts
