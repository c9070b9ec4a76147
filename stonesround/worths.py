"""The worths of places: a number, or the list of the numbers that its roads lead to."""

from stonesround.webs import check_place, check_web


def fits(roads, least, numbers, met):
    """Whether a place with these roads gets this number, the least that none of them leads to."""
    return all(numbers[place] is not None or met[place][least] for place in roads)


def give(web, number, place, numbers, met):
    """Give a number to a place, and note it at the places with a road to that one."""
    numbers[place] = number
    for start, roads in enumerate(web):
        if place in roads:
            met[start][number] = True


def all_met(marks):
    """The numbers that are marked as met, rising."""
    return [number for number, is_met in enumerate(marks) if is_met]


def weighed(web):
    """The worth of each place of what is known to be a web."""
    numbers = [None] * len(web)
    # For each place the numbers that its roads lead to: met[place][number] is True. No place has
    # more roads than there are places, so with one number more some number is never met.
    met = [[False] * (len(web) + 1) for roads in web]
    given = True
    while given:
        given = False
        for place, roads in enumerate(web):
            least = met[place].index(False)
            if numbers[place] is None and fits(roads, least, numbers, met):
                give(web, least, place, numbers, met)
                given = True
    return [all_met(met[place]) if own is None else own for place, own in enumerate(numbers)]


def worths(web):
    """The worth of each place: a number, or a rising list of numbers."""
    check_web(web)
    return weighed(web)


def worth(web, place):
    """The worth of one place."""
    check_web(web)
    check_place(web, place)
    return weighed(web)[place]
