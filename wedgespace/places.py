"""Places that are made one, and sides that are chosen for them.

A table of links is a dict. It has, for each place, the list of the places that are made one
with it directly. Whatever links a place to another one, links that other one to it, too.
"""


def reached(links, start):
    """Return the list of all places that are made one with a place, itself the first one."""
    found = [start]
    seen = {start}
    at = 0
    while at < len(found):
        here = found[at]
        for place in links[here]:
            if place not in seen:
                seen.add(place)
                found.append(place)
        at += 1
    return found


def classes_of(links):
    """Return the classes of a table with ascending places, each ascending, by their least places."""
    classes = []
    seen = set()
    for start in links:
        if start not in seen:
            members = sorted(reached(links, start))
            for place in members:
                seen.add(place)
            classes.append(members)
    return classes


def chosen_sides(links, start):
    """Return a dict with a side, True or False, for each place that is reached from the first one.

    In this table of links each place stands in a pair with True if its side is the same, and with
    False if it is the other one. The first place has the side False. None if sides contradict.
    """
    sides = {start: False}
    found = [start]
    at = 0
    while at < len(found):
        here = found[at]
        for place, same in links[here]:
            wanted = sides[here] if same else not sides[here]
            if place not in sides:
                sides[place] = wanted
                found.append(place)
            elif sides[place] != wanted:
                return None
        at += 1
    return sides
