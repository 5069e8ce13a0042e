"""The vectors that hold the values of a kind in many lanes."""


def vectors_of(kind, values):
    """Return the list of the vectors that hold a list of values."""
    vectors = []
    waiting = [(kind, values)]
    while waiting:
        part, lanes = waiting.pop()
        match part[0]:
            case "num":
                vectors.append(list(lanes))
            case "pair":
                waiting.append((part[2], [second for _, second in lanes]))
                waiting.append((part[1], [first for first, _ in lanes]))
            case _:
                vectors.append([len(row) for row in lanes])
                waiting.append((part[1], [value for row in lanes for value in row]))
    return vectors


def values_of(kind, vectors):
    """Return the list of the values that vectors hold."""
    rest = list(vectors)
    done = []
    # Backwards, the vectors of a kind are taken behind those of its parts.
    for form in reversed(forms_of(kind)):
        match form:
            case "num":
                done.append(list(rest.pop()))
            case "pair":
                first = done.pop()
                second = done.pop()
                done.append(list(zip(first, second)))
            case _:
                done.append(cut(done.pop(), rest.pop()))
    return done[0]


def forms_of(kind):
    """Return the words of a kind in the order in which its vectors stand."""
    forms = []
    waiting = [kind]
    while waiting:
        part = waiting.pop()
        forms.append(part[0])
        waiting.extend(part[:0:-1])
    return forms


def cut(values, lengths):
    """Return a list of values cut into rows with these lengths."""
    rows = []
    start = 0
    for length in lengths:
        rows.append(values[start:start + length])
        start += length
    return rows
