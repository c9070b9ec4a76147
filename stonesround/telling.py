"""Which of the three answers a web and stones have."""

from stonesround.answers import Endless, Lost, Won
from stonesround.outcomes import ENDLESS, LOST, outcome
from stonesround.webs import check_stones, check_web, moved
from stonesround.worths import weighed


def push_into(wanted, web, stones, found):
    """A stone and a place to push it to, behind which the stones have the wanted outcome, or None."""
    for stone, start in enumerate(stones):
        for place in web[start]:
            if outcome(found, moved(stones, stone, place)) == wanted:
                return stone, place
    return None


def told(web, stones):
    """A Lost, a Won or an Endless, whichever it is for who is to push."""
    check_web(web)
    check_stones(web, stones)
    found = weighed(web)
    now = outcome(found, stones)
    if now == LOST:
        return Lost()
    # Endless stones have a push to endless ones, won ones to lost ones, so there is one to tell.
    if now == ENDLESS:
        stone, place = push_into(ENDLESS, web, stones, found)
        return Endless(stone, place)
    stone, place = push_into(LOST, web, stones, found)
    return Won(stone, place)
