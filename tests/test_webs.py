"""Point [1]: webs, stones and pushes."""

import copy
import inspect
import unittest

import samples
from stonesround.errors import BadPush, BadStones, BadWeb
from stonesround.webs import pushed

FORK = [[1, 2], [2], [0, 2], []]


class Pushes(unittest.TestCase, samples.Checks):
    def test_arguments(self):
        self.assertEqual(list(inspect.signature(pushed).parameters), ["web", "stones", "stone", "place"])

    def test_one_stone_moves_and_the_others_stay(self):
        self.assertEqual(pushed(FORK, [0], 0, 1), [1])
        self.assertEqual(pushed(FORK, [0, 1, 2], 0, 2), [2, 1, 2])
        self.assertEqual(pushed(FORK, [0, 1, 2], 1, 2), [0, 2, 2])
        self.assertEqual(pushed(FORK, [0, 1, 2], 2, 0), [0, 1, 0])

    def test_of_several_stones_on_one_place_only_the_named_one_moves(self):
        self.assertEqual(pushed(FORK, [0, 0, 0], 0, 1), [1, 0, 0])
        self.assertEqual(pushed(FORK, [0, 0, 0], 1, 1), [0, 1, 0])
        self.assertEqual(pushed(FORK, [0, 0, 0], 2, 2), [0, 0, 2])

    def test_a_road_to_the_place_itself(self):
        self.assertEqual(pushed([[0]], [0], 0, 0), [0])
        self.assertEqual(pushed(FORK, [2, 1], 0, 2), [2, 1])

    def test_a_ring_all_the_way_round(self):
        for many in (1, 2, 60):
            stones = [0, many - 1]
            for step in range(many):
                stones = pushed(samples.ring(many), stones, 0, (step + 1) % many)
                self.assertEqual(stones, [(step + 1) % many, many - 1])

    def test_stones_are_not_put_in_order(self):
        self.assertEqual(pushed(FORK, [3, 2, 1, 0], 1, 0), [3, 0, 1, 0])

    def test_each_place_is_a_road_or_refused(self):
        for web in samples.edge_webs():
            many = len(web)
            stones = [0, many - 1, many // 2, 0, many // 3]
            for stone, start in enumerate(stones):
                for place in range(-2, many + 2):
                    if 0 <= place < many and place in web[start]:
                        expected = stones[:stone] + [place] + stones[stone + 1:]
                        self.assertEqual(pushed(web, stones, stone, place), expected)
                    else:
                        self.assert_refused(BadPush, pushed, web, stones, stone, place)

    def test_twenty_stones(self):
        stones = [place % 4 for place in range(20)]
        self.assertEqual(pushed(FORK, stones, 18, 0), stones[:18] + [0, 3])
        self.assertEqual(pushed([[0]], [0] * 20, 19, 0), [0] * 20)
        self.assertEqual(pushed(samples.full(60), [59] * 20, 19, 0), [59] * 19 + [0])

    def test_what_is_told_is_a_list_of_numbers(self):
        told = pushed(FORK, [0, 1], 1, 2)
        self.assertIs(type(told), list)
        self.assertEqual([type(place) for place in told], [int, int])


class PushRefusals(unittest.TestCase, samples.Checks):
    def test_no_such_stone(self):
        for stones in ([0], [0, 0], [0] * 20):
            many = len(stones)
            for stone in (-1, -many, -many - 1, many, many + 1, 60, samples.HUGE, -samples.HUGE):
                self.assert_refused(BadPush, pushed, FORK, stones, stone, 1)

    def test_no_stones_at_all(self):
        for stone in (0, 1, -1, None):
            self.assert_refused(BadPush, pushed, FORK, [], stone, 0)
            self.assert_refused(BadPush, pushed, [[0]], [], stone, 0)

    def test_no_road_leads_there(self):
        for place in (0, 3, 4, 5, -1, -2, -3, -4, 60, samples.HUGE, -samples.HUGE):
            self.assert_refused(BadPush, pushed, FORK, [0], 0, place)
        self.assert_refused(BadPush, pushed, [[]], [0], 0, 0)
        self.assert_refused(BadPush, pushed, FORK, [3], 0, 3)

    def test_a_road_goes_one_way(self):
        self.assertEqual(pushed(FORK, [0], 0, 1), [1])
        self.assert_refused(BadPush, pushed, FORK, [1], 0, 0)

    def test_the_road_of_another_stone_does_not_count(self):
        self.assert_refused(BadPush, pushed, FORK, [0, 1], 1, 1)

    def test_stone_and_place_of_any_kind(self):
        web = samples.full(3)
        for wrong in samples.no_numbers():
            self.assert_refused(BadPush, pushed, web, [0, 1, 2], wrong, 1)
            self.assert_refused(BadPush, pushed, web, [0, 1, 2], 1, wrong)
            self.assert_refused(BadPush, pushed, web, [0, 1, 2], wrong, wrong)


class StonesRefusals(unittest.TestCase, samples.Checks):
    def test_stones_of_any_kind(self):
        for web in (FORK, [[0]], samples.full(59)):
            for stones in samples.bad_stones(web):
                self.assert_refused(BadStones, pushed, web, stones, 0, 0)

    def test_a_place_of_the_web_but_for_one(self):
        self.assertEqual(pushed(samples.full(59), [58], 0, 58), [58])
        self.assert_refused(BadStones, pushed, samples.full(59), [59], 0, 58)

    def test_twenty_one_stones(self):
        self.assertEqual(pushed([[0]], [0] * 20, 0, 0), [0] * 20)
        self.assert_refused(BadStones, pushed, [[0]], [0] * 21, 0, 0)


class WebRefusals(unittest.TestCase, samples.Checks):
    def test_webs_of_any_kind(self):
        for web in samples.bad_webs():
            self.assert_refused(BadWeb, pushed, web, [0], 0, 0)

    def test_the_counts_of_places(self):
        self.assertEqual(pushed(samples.full(1), [0], 0, 0), [0])
        self.assertEqual(pushed(samples.full(60), [0], 0, 59), [59])
        self.assert_refused(BadWeb, pushed, [], [], 0, 0)
        self.assert_refused(BadWeb, pushed, samples.full(61), [0], 0, 0)

    def test_a_wrong_place_that_no_stone_stands_on(self):
        self.assert_refused(BadWeb, pushed, [[0], [1, 1]], [0], 0, 0)


class FirstRefusal(unittest.TestCase, samples.Checks):
    def test_web_before_stones_before_push(self):
        for stones in ([0], [1], None, [0] * 21, [True]):
            for stone in (0, 5, None):
                for place in (0, 5, None):
                    self.assert_refused(BadWeb, pushed, [[1]], stones, stone, place)
                    self.assert_refused(BadWeb, pushed, None, stones, stone, place)
        for stones in (None, [4], [0] * 21, [False]):
            for stone in (0, 5, None):
                for place in (1, 5, None):
                    self.assert_refused(BadStones, pushed, FORK, stones, stone, place)


class NothingChanged(unittest.TestCase, samples.Checks):
    def test_what_is_handed_in_stays(self):
        for web in samples.edge_webs():
            self.assert_untouched(pushed, web, [0, len(web) - 1], 0, (web[0] + [0])[0])
        for given in ((FORK, [0, 0], 1, 2), (FORK, [0], 0, 3), (FORK, [2, 9], 0, 0), ([[1, 0], []], [0], 0, 0)):
            self.assert_untouched(pushed, *copy.deepcopy(given))

    def test_what_is_told_is_new(self):
        stones = [2, 0]
        first = pushed(FORK, stones, 0, 2)
        second = pushed(FORK, stones, 0, 2)
        self.assertIsNot(first, stones)
        self.assertIsNot(first, second)
        first.append(7)
        first[0] = 9
        self.assertEqual(stones, [2, 0])
        self.assertEqual(second, [2, 0])
        self.assertEqual(pushed(FORK, stones, 0, 2), [2, 0])

    def test_the_same_lists_changed_are_answered_anew(self):
        web = [[1], []]
        stones = [0]
        self.assertEqual(pushed(web, stones, 0, 1), [1])
        web[0][0] = 0
        self.assert_refused(BadPush, pushed, web, stones, 0, 1)
        self.assertEqual(pushed(web, stones, 0, 0), [0])
        web[1].append(1)
        stones[0] = 1
        self.assertEqual(pushed(web, stones, 0, 1), [1])
        stones.append(2)
        self.assert_refused(BadStones, pushed, web, stones, 0, 1)
        web[1].append(1)
        self.assert_refused(BadWeb, pushed, web, stones, 0, 1)


if __name__ == "__main__":
    unittest.main()
