"""A thing's depth, its leaves and its parts."""

from nestnote.errors import NoPart


def depth(thing):
    # Each round goes from the lists of one level to the lists straight within them.
    levels = 0
    lists = lists_among([thing])
    while len(lists) > 0:
        levels = levels + 1
        within = []
        for things in lists:
            within.extend(lists_among(things))
        lists = within
    return levels


def lists_among(things):
    return [thing for thing in things if isinstance(thing, list)]


def leaves(thing):
    # What is still to be looked at lies in a pile, the next on top: no list is too deep for it.
    pile = [thing]
    found = []
    while len(pile) > 0:
        part = pile.pop()
        if isinstance(part, list):
            pile.extend(list(reversed(part)))
        else:
            found.append(part)
    return found


def part_at(thing, path):
    part = thing
    for place in path:
        part = thing_at(part, place)
    return part


def with_part(thing, path, part):
    lists = []
    reached = thing
    for place in path:
        inner = thing_at(reached, place)
        lists.append(reached)
        reached = inner
    # From the path's end outwards, each list on the way is made anew: those handed in stay as they are.
    made = part
    for things, place in reversed(list(zip(lists, path))):
        made = things[:place] + [made] + things[place + 1:]
    return made


def thing_at(part, place):
    # The words don't tell the place: Python refuses to write out a number of very many figures.
    if not isinstance(part, list):
        raise NoPart("a number or a word has no place in it")
    if place < 0 or place >= len(part):
        raise NoPart("the list has no such place")
    return part[place]
