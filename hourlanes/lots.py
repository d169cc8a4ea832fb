"""Lots: the pieces of one stream that come in one tick, and their hours."""


def hours_of(came, way):
    hours = [came]
    for lane, wait in way:
        hours.append(hours[-1] + wait)
    return tuple(hours)
