"""What the worths of their places tell of several stones together."""

LOST = "lost"
WON = "won"
ENDLESS = "endless"


def bit_sum(numbers):
    """The sum, bit by bit: a bit is set where an odd count of the numbers has it."""
    total = 0
    for number in numbers:
        total ^= number
    return total


def outcome(found, stones):
    """LOST, WON or ENDLESS for who is to push, if these are the worths of all places."""
    lists = [found[place] for place in stones if isinstance(found[place], list)]
    if len(lists) > 1:
        return ENDLESS
    total = bit_sum([found[place] for place in stones if isinstance(found[place], int)])
    if lists:
        return WON if total in lists[0] else ENDLESS
    return LOST if total == 0 else WON
