"""Point [2]: one stone and how many pushes it has till the end."""

import functools
import inspect
import unittest

import samples
from stonesround.counting import end, ends
from stonesround.errors import BadPlace, BadWeb


def better(first, second):
    """Of two ends for who is to push: win shortly, else go on for ever, else lose late."""
    def rank(told):
        if told is None:
            return (1, 0)
        return (2, -told) if told % 2 == 1 else (0, told)
    return first if rank(first) >= rank(second) else second


def played_ends(web):
    """The ends of a small web by going through all pushes, cut off behind more than any end takes."""
    @functools.lru_cache(maxsize=None)
    def played(place, left):
        if not web[place]:
            return 0
        if left == 0:
            return None
        told = [played(to, left - 1) for to in web[place]]
        return functools.reduce(better, [None if each is None else each + 1 for each in told])
    return [played(place, 2 * len(web) + 2) for place in range(len(web))]


class Ends(unittest.TestCase, samples.Checks):
    def test_arguments(self):
        self.assertEqual(list(inspect.signature(ends).parameters), ["web"])
        self.assertEqual(list(inspect.signature(end).parameters), ["web", "place"])

    def test_no_roads(self):
        for many in (1, 2, 60):
            self.assertEqual(ends([[] for place in range(many)]), [0] * many)

    def test_roads_to_the_place_itself(self):
        for many in (1, 2, 60):
            self.assertEqual(ends([[place] for place in range(many)]), [None] * many)

    def test_rings(self):
        for many in (1, 2, 3, 4, 59, 60):
            self.assertEqual(ends(samples.ring(many)), [None] * many)

    def test_lines(self):
        for many in (1, 2, 3, 59, 60):
            self.assertEqual(ends(samples.line(many)), list(range(many - 1, -1, -1)))

    def test_roads_to_all_places_behind(self):
        for many in (1, 2, 3, 60):
            self.assertEqual(ends(samples.onward(many)), [1] * (many - 1) + [0])

    def test_roads_to_all_places(self):
        for many in (1, 2, 60):
            self.assertEqual(ends(samples.full(many)), [None] * many)
        self.assertEqual(ends(samples.full(60)[:59] + [[]]), [1] * 59 + [0])

    def test_who_wins_makes_it_as_short_as_can_be(self):
        self.assertEqual(ends([[1, 4], [2], [3], [], []]), [1, 2, 1, 0, 0])
        self.assertEqual(ends([[1, 4], [2], [3], [], [5], [6], [7], [8], []]), [3, 2, 1, 0, 4, 3, 2, 1, 0])

    def test_who_loses_makes_it_as_long_as_can_be(self):
        self.assertEqual(ends([[1, 2], [5], [3], [4], [5], []]), [4, 1, 3, 2, 1, 0])

    def test_who_would_lose_goes_round_instead(self):
        self.assertEqual(ends([[1, 2], [0], [3], []]), [None, None, 1, 0])
        self.assertEqual(ends([[0, 1], [2], []]), [None, 1, 0])

    def test_who_can_win_does_not_go_round(self):
        self.assertEqual(ends([[0, 1], []]), [1, 0])
        self.assertEqual(ends([[1, 2], [0], []]), [1, 2, 0])

    def test_a_ring_with_a_way_out(self):
        self.assertEqual(ends([[1], [2], [0, 3], []]), [3, 2, 1, 0])

    def test_a_line_into_a_ring(self):
        self.assertEqual(ends([[1], [2], [3], [2]]), [None] * 4)

    def test_the_longest_end_of_60_places(self):
        web = samples.line(60)
        # Who wins has ways round that need not be taken.
        web[56] = [0, 56, 57]
        web[58] = [3, 59]
        self.assertEqual(ends(web), list(range(59, -1, -1)))

    def test_all_webs_of_up_to_3_places(self):
        for many in (1, 2, 3):
            for number in range(1 << many * many):
                web = samples.web_of(number, many)
                self.assertEqual(ends(web), played_ends(web), web)

    def test_many_webs_of_4_and_more_places(self):
        webs = [samples.web_of(number, 4) for number in range(0, 1 << 16, 29)]
        webs += [samples.mixed_web(seed, many, most) for seed in range(60) for many in (5, 6, 8) for most in (2, 3)]
        for web in webs:
            self.assertEqual(ends(web), played_ends(web), web)

    def test_each_end_follows_from_those_that_its_roads_lead_to(self):
        for web in samples.edge_webs():
            told = ends(web)
            self.assertEqual(len(told), len(web))
            for roads, count in zip(web, told):
                nexts = [told[to] for to in roads]
                lost = [each for each in nexts if each is not None and each % 2 == 0]
                if lost:
                    self.assertEqual(count, 1 + min(lost))
                elif None in nexts:
                    self.assertIsNone(count)
                else:
                    self.assertEqual(count, max([1 + each for each in nexts], default=0))

    def test_what_is_told_is_a_list_of_numbers_and_none(self):
        told = ends([[0], [], [1]])
        self.assertIs(type(told), list)
        self.assertEqual([type(each) for each in told], [type(None), int, int])

    def test_end_is_one_of_the_ends(self):
        for web in samples.edge_webs():
            told = ends(web)
            for place in {0, 1 % len(web), len(web) // 2, len(web) - 1}:
                self.assertEqual(end(web, place), told[place])
                self.assertIs(type(end(web, place)), type(told[place]))


class Refusals(unittest.TestCase, samples.Checks):
    def test_webs_of_any_kind(self):
        for web in samples.bad_webs():
            self.assert_refused(BadWeb, ends, web)
            self.assert_refused(BadWeb, end, web, 0)

    def test_places_of_any_kind(self):
        for web in ([[]], [[1], [0, 1]], samples.full(3), samples.line(59)):
            for place in samples.bad_places(web):
                self.assert_refused(BadPlace, end, web, place)

    def test_the_edges_of_60_places(self):
        self.assertEqual(end(samples.line(60), 0), 59)
        self.assertEqual(end(samples.line(60), 59), 0)
        self.assert_refused(BadPlace, end, samples.line(60), 60)
        self.assert_refused(BadPlace, end, samples.line(60), -1)
        self.assert_refused(BadWeb, ends, samples.line(61))

    def test_web_before_place(self):
        for place in samples.bad_places([[]]):
            self.assert_refused(BadWeb, end, [], place)
            self.assert_refused(BadWeb, end, [[0, 0]], place)
            self.assert_refused(BadWeb, end, None, place)


class NothingChanged(unittest.TestCase, samples.Checks):
    def test_what_is_handed_in_stays(self):
        for web in samples.edge_webs() + [[[1, 0], []], [[2]], [[0, 0]]]:
            self.assert_untouched(ends, web)
            self.assert_untouched(end, web, 0)
            self.assert_untouched(end, web, 99)

    def test_what_is_told_is_new(self):
        web = samples.line(3)
        first = ends(web)
        second = ends(web)
        self.assertIsNot(first, second)
        first[0] = 9
        first.append(7)
        self.assertEqual(second, [2, 1, 0])
        self.assertEqual(ends(web), [2, 1, 0])
        self.assertEqual(end(web, 0), 2)
        self.assertEqual(web, samples.line(3))

    def test_the_same_list_changed_is_answered_anew(self):
        web = [[1], []]
        self.assertEqual((ends(web), end(web, 0)), ([1, 0], 1))
        web[1].append(0)
        self.assertEqual((ends(web), end(web, 0)), ([None, None], None))
        web[0] = []
        self.assertEqual((ends(web), end(web, 0)), ([0, 1], 0))
        web.append([1])
        self.assertEqual((ends(web), end(web, 2)), ([0, 1, 2], 2))
        web[2].append(1)
        self.assert_refused(BadWeb, ends, web)
        self.assert_refused(BadWeb, end, web, 0)


if __name__ == "__main__":
    unittest.main()
