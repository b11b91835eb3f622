"""One behind another, each the first that follows the one before it."""


# What is given back comes behind the start. It ends where none follows, or with one that was there already.
def chain(start, following):
    there = [start]
    comers = following(start)
    while len(comers) > 0:
        known = comers[0] in there
        there.append(comers[0])
        comers = [] if known else following(comers[0])
    return there[1:]
