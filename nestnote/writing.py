"""Writing a thing as its line."""


def shown(thing):
    # What is still to be written lies in a pile, the next on top: no list is too deep for it.
    pile = [thing]
    written = []
    while len(pile) > 0:
        part = pile.pop()
        if isinstance(part, list):
            pile.extend(list(reversed(list_row(part))))
        else:
            written.append(str(part))
    return "".join(written)


def list_row(things):
    # Brackets and blanks are texts, so they are written as they stand, as words are.
    row = ["["]
    for place, thing in enumerate(things):
        if place > 0:
            row.append(" ")
        row.append(thing)
    row.append("]")
    return row
