"""Which lines are a word, and which are a number."""

LETTERS = "abcdefghijklmnopqrstuvwxyz"
FIGURES = "0123456789"


def is_word(line):
    return is_made_of(line, LETTERS)


def is_number(line):
    # Nought is the one number that begins with a nought, and it has no sign ahead.
    if line == "0":
        return True
    figures = line[1:] if line.startswith("-") else line
    return is_made_of(figures, FIGURES) and not figures.startswith("0")


def is_made_of(line, allowed):
    # The empty line is asked for by itself: all() would let it through.
    return line != "" and all([sign in allowed for sign in line])
