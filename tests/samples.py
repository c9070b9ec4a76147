"""Webs, stones and wrong values that several tests share."""

import copy
import itertools
import random

from stonesround import errors

HUGE = 10 ** 6000


def nothing():
    yield 0


def no_numbers():
    """Values of many kinds, none of them a number, new each time."""
    return [
        None, True, False, "", "0", "1", "two", b"", b"0", bytearray(b"1"), [], [0], [1], [[]], (), (0,), (1,),
        set(), {0}, {1}, frozenset({0}), {}, {0: 1}, range(2), object(), int, len, nothing, nothing(), ValueError(),
    ]


def no_lists():
    """Values of many kinds, none of them a list, new each time."""
    return [
        None, True, False, 0, 1, -1, 2, 60, HUGE, -HUGE, "", "0", "[[]]", b"", b"\x00", bytearray(1), (), (0,),
        ([],), ((),), set(), {0}, frozenset(), {}, {0: []}, {0: 0}, range(0), range(1), object(), list, len,
        nothing, nothing(), ValueError(),
    ]


def circular():
    """A list whose one item is itself."""
    web = []
    web.append(web)
    return web


def bad_webs():
    """Whatever is no web, new each time."""
    webs = no_lists()
    webs += [[], [[] for place in range(61)], [[] for place in range(62)], [[] for place in range(1000)]]
    webs += [[roads] for roads in no_lists()]
    webs += [[[], [0], roads] for roads in no_lists()]
    webs += [[[road]] for road in no_numbers()]
    webs += [[[], [0, road], []] for road in no_numbers()]
    webs += [[[road, 2], [], []] for road in no_numbers()]
    webs += [[[road]] for road in (1, 2, -1, -2, 60, 61, HUGE, -HUGE)]
    webs += [[[0], [1, road]] for road in (2, 3, 60, HUGE)]
    webs += [[[road, 1], [1]] for road in (-1, -2, -60, -HUGE)]
    webs += [[[0, 0]], [[1, 1], []], [[], [0, 1, 1]], [[0, 0, 1], []]]
    webs += [[[1, 0], []], [[], [], [0, 2, 1]], [[], [], [2, 1, 0]], [[1, 2, 0], [], []], [[0, 1, 0], []]]
    webs += [[[] for place in range(59)] + [last] for last in (None, [60], [-1], [3, 3], [4, 2], [True], "")]
    webs += [circular(), [circular()], [[0], circular()]]
    return webs


def bad_places(web):
    """Whatever is no place of the web, new each time."""
    return no_numbers() + [-1, -len(web), -len(web) - 1, len(web), len(web) + 1, 60, 61, HUGE, -HUGE]


def bad_stones(web):
    """Whatever is no list of stones on the web, new each time."""
    lists = no_lists()
    lists += [[0] * 21, [0] * 22, [0] * 1000, [None] * 21]
    lists += [[place] for place in bad_places(web)]
    lists += [[0, 0, place] for place in bad_places(web)]
    lists += [[place, 0] for place in bad_places(web)]
    lists += [[0] * 19 + [place] for place in bad_places(web)]
    lists += [circular()]
    return lists


def ring(many):
    return [[(place + 1) % many] for place in range(many)]


def line(many):
    return [[place + 1] if place + 1 < many else [] for place in range(many)]


def onward(many):
    """Each place leads to all places behind it."""
    return [list(range(place + 1, many)) for place in range(many)]


def backward(many):
    """Each place leads to all places before it, so that its worth is its own count."""
    return [list(range(place)) for place in range(many)]


def full(many):
    return [list(range(many)) for place in range(many)]


def web_of(number, many):
    """The web of many places whose roads are the bits of the number."""
    return [[to for to in range(many) if number >> (place * many + to) & 1] for place in range(many)]


def mixed_web(seed, many, most):
    """A web with up to most roads for each place, the same for the same seed."""
    dice = random.Random(seed)
    return [sorted({dice.randrange(many) for road in range(dice.randrange(most + 1))}) for place in range(many)]


def edge_webs():
    """The webs at the edges that the document names."""
    webs = [[[]], [[0]], [[] for place in range(2)], [[] for place in range(60)]]
    webs += [[[place] for place in range(many)] for many in (1, 2, 60)]
    webs += [shape(many) for shape in (ring, line, onward, backward, full) for many in (1, 2, 3, 4, 5, 59, 60)]
    # A ring with one way out of it, and a line that leads into a ring.
    webs += [[[1], [2], [0, 3], []], [[1], [2], [3], [2]], [[1, 2], [0], []], [[0, 1], [0, 1], []]]
    webs += [mixed_web(seed, many, most) for seed in range(12) for many in (7, 31, 60) for most in (1, 2, 3, 5, 40)]
    return webs


def behind(stones, stone, place):
    return stones[:stone] + [place] + stones[stone + 1:]


def settings(web, many):
    """All lists of many stones on the web."""
    return [list(stones) for stones in itertools.product(range(len(web)), repeat=many)]


def settled(web, many):
    """What all settings of many stones come to, by going through all pushes of all stones together."""
    nexts = {
        tuple(stones): [
            tuple(behind(stones, stone, to)) for stone, place in enumerate(stones) for to in web[place]
        ]
        for stones in settings(web, many)
    }
    known = {}
    found = True
    while found:
        found = False
        for stones in nexts:
            told = [known.get(each) for each in nexts[stones]]
            if stones not in known and ("lost" in told or set(told) <= {"won"}):
                known[stones] = "won" if "lost" in told else "lost"
                found = True
    return {stones: known.get(stones, "endless") for stones in nexts}


def small_webs():
    """All webs of up to 2 places, and some of 3 to 5."""
    webs = [web_of(number, many) for many in (1, 2) for number in range(1 << many * many)]
    webs += [web_of(number, 3) for number in range(0, 1 << 9, 5)]
    webs += [mixed_web(seed, many, most) for seed in range(8) for many in (4, 5) for most in (2, 3)]
    return webs


def raised(function, *given):
    """The error that the call raises, or None."""
    try:
        function(*given)
    except Exception as error:
        return error
    return None


class Checks:
    """Checks for test cases of all modules."""

    def assert_refused(self, kind, function, *given):
        """The call raises an error of this very class, of no other refusal's, and one that can be shown."""
        error = raised(function, *given)
        self.assertIs(type(error), kind, [type(each).__name__ for each in given])
        self.assertIsInstance(error, errors.PushError)
        self.assertIsInstance(error, ValueError)
        for other in (errors.BadWeb, errors.BadPlace, errors.BadStones, errors.BadPush):
            self.assertEqual(isinstance(error, other), other is kind)
        self.assertIsInstance(str(error), str)

    def assert_untouched(self, function, *given):
        """The call changes nothing that it is given, whether it tells something or refuses."""
        before = copy.deepcopy(given)
        inside = [[id(item) for item in each] if isinstance(each, list) else None for each in given]
        raised(function, *given)
        self.assertEqual(given, before)
        after = [[id(item) for item in each] if isinstance(each, list) else None for each in given]
        self.assertEqual(after, inside)
