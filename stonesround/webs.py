"""Webs and the stones on them: what counts as one, and a push."""

from stonesround.errors import BadPlace, BadPush, BadStones, BadWeb

MOST_PLACES = 60
MOST_STONES = 20


def is_counted(value, many):
    """Whether the value is one of the whole numbers from 0 to below many."""
    # True and False would pass as 1 and 0, and they are no numbers here.
    if not isinstance(value, int) or isinstance(value, bool):
        return False
    return 0 <= value < many


def are_roads(value, many):
    """Whether the value lists roads to some of many places, rising, none twice."""
    if not isinstance(value, list):
        return False
    least = 0
    for place in value:
        if not is_counted(place, many) or place < least:
            return False
        least = place + 1
    return True


# No message below shows what was handed in: Python itself refuses to write out very long numbers.


def check_web(web):
    """Raise BadWeb if this is no web."""
    if not isinstance(web, list):
        raise BadWeb("a web is a list")
    if not 1 <= len(web) <= MOST_PLACES:
        raise BadWeb(f"a web has 1 to {MOST_PLACES} places")
    for roads in web:
        if not are_roads(roads, len(web)):
            raise BadWeb("the roads of a place are a list of places, rising, none twice")


def check_place(web, place):
    """Raise BadPlace if this web has no such place."""
    if not is_counted(place, len(web)):
        raise BadPlace("the web has no such place")


def check_stones(web, stones):
    """Raise BadStones if these are no stones on this web."""
    if not isinstance(stones, list):
        raise BadStones("stones are a list")
    if len(stones) > MOST_STONES:
        raise BadStones(f"there are at most {MOST_STONES} stones")
    for place in stones:
        if not is_counted(place, len(web)):
            raise BadStones("a stone stands on a place of the web")


def is_push(web, stones, stone, place):
    """Whether there is such a stone and a road of its place leads there."""
    return is_counted(stone, len(stones)) and is_counted(place, len(web)) and place in web[stones[stone]]


def moved(stones, stone, place):
    """The stones behind what is known to be a push, as a new list."""
    behind = list(stones)
    behind[stone] = place
    return behind


def pushed(web, stones, stone, place):
    """The stones behind a push of one stone to a place, as a new list."""
    check_web(web)
    check_stones(web, stones)
    if not is_push(web, stones, stone, place):
        raise BadPush("there is no such stone, or no road of its place leads there")
    return moved(stones, stone, place)
