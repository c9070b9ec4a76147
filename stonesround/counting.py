"""How many pushes one stone has till the end."""

from stonesround.webs import check_place, check_web


def is_won(told):
    """Whether this end is that of a won place: who wins pushes first and last."""
    return told is not None and told % 2 == 1


def ends_in(roads, known, count):
    """Whether a place with these roads ends in this count, if all shorter ends are known."""
    if count % 2 == 1:
        return any([known[place] == count - 1 for place in roads])
    return all([is_won(known[place]) for place in roads])


def ends(web):
    """The end of each place: a count of pushes, or None if neither can make the other lose."""
    check_web(web)
    known = [None] * len(web)
    # Found by rising count, a won place's first end is its shortest and a lost one's its longest.
    # Each count up to the longest end has a place of its own, so none reaches the count of places.
    for count in range(len(web)):
        found = [
            place for place, roads in enumerate(web)
            if known[place] is None and ends_in(roads, known, count)
        ]
        for place in found:
            known[place] = count
        # An end needs another one that is shorter by 1.
        if not found:
            break
    return known


def end(web, place):
    """The end of one place."""
    known = ends(web)
    check_place(web, place)
    return known[place]
