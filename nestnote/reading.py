"""Reading a line to its thing, and where a line that no thing is written as has its first fault."""

from nestnote.errors import NoThing
from nestnote.signs import FIGURES, LETTERS, is_number

# Which signs can stand at a place hangs on what stands just ahead of it.
# START is the line's beginning and the blank between two things: a thing has to begin.
START = "start"
# OPENED and CLOSED are behind a bracket.
OPENED = "opened"
CLOSED = "closed"
# The others are within a number or a word, or just behind it. NOUGHT takes no further figure.
MINUS = "minus"
NOUGHT = "nought"
NUMBER = "number"
WORD = "word"


def read(line):
    if fault(line) is not None:
        raise NoThing("no thing is written as this line")
    return thing_of(line)


def fault(line):
    state = START
    unclosed = 0
    for place, sign in enumerate(line):
        state = state_behind(sign, state, unclosed)
        if state is None:
            return place
        if state == OPENED:
            unclosed = unclosed + 1
        if state == CLOSED:
            unclosed = unclosed - 1
    if unclosed == 0 and ends_thing(state):
        return None
    return len(line)


def ends_thing(state):
    return state in (CLOSED, NOUGHT, NUMBER, WORD)


def state_behind(sign, state, unclosed):
    # None tells that the sign can't stand there.
    if state == OPENED and sign == "]":
        return CLOSED
    if state in (START, OPENED):
        return state_behind_first(sign)
    if state == MINUS:
        return NUMBER if sign in FIGURES and sign != "0" else None
    if state == NUMBER and sign in FIGURES:
        return NUMBER
    if state == WORD and sign in LETTERS:
        return WORD
    # A whole thing stands ahead. Outside of a list nothing may follow it.
    if unclosed == 0:
        return None
    return state_behind_thing(sign)


def state_behind_first(sign):
    if sign == "[":
        return OPENED
    if sign == "-":
        return MINUS
    if sign == "0":
        return NOUGHT
    if sign in FIGURES:
        return NUMBER
    if sign in LETTERS:
        return WORD
    return None


def state_behind_thing(sign):
    if sign == " ":
        return START
    if sign == "]":
        return CLOSED
    return None


def thing_of(line):
    # The line has no fault here. The outermost list is no part of it: it takes up the one thing.
    # A pile of the lists that are not closed yet, the innermost on top: no line is too deep for it.
    outermost = []
    pile = [outermost]
    for piece in pieces_of(line):
        if piece == "[":
            pile.append([])
        elif piece == "]":
            closed = pile.pop()
            pile[-1].append(closed)
        else:
            pile[-1].append(leaf_of(piece))
    return outermost[0]


def pieces_of(line):
    return line.replace("[", "[ ").replace("]", " ]").split()


def leaf_of(piece):
    return int(piece) if is_number(piece) else piece
