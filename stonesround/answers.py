"""What can be told of a web and stones, and whether it is so."""

from stonesround.outcomes import ENDLESS, LOST, outcome
from stonesround.webs import is_push, moved
from stonesround.worths import weighed

# Nothing is refused here: what is asked about are webs and stones, and a push that isn't there is just not shown.


class Answer:
    """What every answer is."""


class Lost(Answer):
    """The other one can come to be the last to push, whatever who is to push does."""

    def shows(self, web, stones):
        """Whether these stones are lost."""
        return outcome(weighed(web), stones) == LOST


class Won(Answer):
    """A push behind which the other one has lost."""

    def __init__(self, stone, place):
        self.stone = stone
        self.place = place

    def shows(self, web, stones):
        """Whether these stones are won by this push."""
        if not is_push(web, stones, self.stone, self.place):
            return False
        return outcome(weighed(web), moved(stones, self.stone, self.place)) == LOST


class Endless(Answer):
    """Neither can make the other lose, and behind a push it is so still."""

    def __init__(self, stone, place):
        self.stone = stone
        self.place = place

    def shows(self, web, stones):
        """Whether these stones are endless, and still so behind this push."""
        if not is_push(web, stones, self.stone, self.place):
            return False
        found = weighed(web)
        # Won stones may have a push to endless ones, too, and are none the less won.
        if outcome(found, stones) != ENDLESS:
            return False
        return outcome(found, moved(stones, self.stone, self.place)) == ENDLESS
