"""Points [4] and [5]: which of the three answers a web and stones have."""

import functools
import inspect
import operator
import random
import unittest

import samples
from stonesround.answers import Answer, Endless, Lost, Won
from stonesround.errors import BadStones, BadWeb
from stonesround.telling import told
from stonesround.webs import pushed
from stonesround.worths import worths

KINDS = {"lost": Lost, "won": Won, "endless": Endless}


def by_worths(web, stones):
    """What point [5] says of the stones."""
    found = [worths(web)[place] for place in stones]
    lists = [each for each in found if isinstance(each, list)]
    total = functools.reduce(operator.xor, [each for each in found if isinstance(each, int)], 0)
    if len(lists) == 1:
        return "won" if total in lists[0] else "endless"
    if lists:
        return "endless"
    return "won" if total else "lost"


class ToldChecks(samples.Checks):
    def assert_told(self, web, stones, kind):
        """The answer is of this very class and its push is there; the stones behind the push are given back."""
        answer = told(web, stones)
        self.assertIs(type(answer), KINDS[kind], (web, stones))
        self.assertIsInstance(answer, Answer)
        self.assertIs(answer.shows(web, stones), True)
        if kind == "lost":
            self.assertEqual(vars(answer), {})
            return None
        self.assertEqual(sorted(vars(answer)), ["place", "stone"])
        self.assertEqual([type(answer.stone), type(answer.place)], [int, int])
        self.assertIn(answer.stone, range(len(stones)))
        self.assertIn(answer.place, web[stones[answer.stone]])
        return pushed(web, stones, answer.stone, answer.place)

    def assert_told_and_behind(self, web, stones, kind):
        """The answer is of this class, and so is, or lost, what is behind its push."""
        then = self.assert_told(web, stones, kind)
        if then is not None:
            self.assert_told(web, then, "lost" if kind == "won" else "endless")


class AgainstAllSettings(unittest.TestCase, ToldChecks):
    def check(self, web, many):
        known = samples.settled(web, many)
        for stones in samples.settings(web, many):
            kind = known[tuple(stones)]
            then = self.assert_told(web, stones, kind)
            if then is not None:
                self.assertEqual(known[tuple(then)], "lost" if kind == "won" else "endless", (web, stones))

    def test_all_webs_of_up_to_3_places(self):
        for many in (1, 2, 3):
            for number in range(1 << many * many):
                for stones in (0, 1, 2, 3):
                    self.check(samples.web_of(number, many), stones)

    def test_three_stones_on_more_places(self):
        for seed in range(8):
            for many, most in ((4, 2), (4, 3), (5, 2), (5, 3)):
                self.check(samples.mixed_web(seed, many, most), 3)

    def test_four_stones(self):
        for number in range(0, 1 << 9, 23):
            self.check(samples.web_of(number, 3), 4)

    def test_many_webs_of_4_places(self):
        for number in range(0, 1 << 16, 211):
            self.check(samples.web_of(number, 4), 2)

    def test_webs_of_more_places(self):
        for seed in range(12):
            for most in (2, 3, 4):
                self.check(samples.mixed_web(seed, 8, most), 1)
                self.check(samples.mixed_web(seed, 8, most), 2)


class ByHand(unittest.TestCase, ToldChecks):
    def test_arguments(self):
        self.assertEqual(list(inspect.signature(told).parameters), ["web", "stones"])

    def test_no_stones_at_all(self):
        for web in ([[]], [[0]], samples.ring(3), samples.backward(60), samples.full(60)):
            self.assert_told(web, [], "lost")

    def test_one_stone(self):
        web = [[1], [0], [], [2], [0, 2]]
        for place, kind in enumerate(["endless", "endless", "lost", "won", "won"]):
            self.assert_told_and_behind(web, [place], kind)
        self.assertEqual(vars(told(web, [3])), {"stone": 0, "place": 2})
        self.assertEqual(vars(told(web, [4])), {"stone": 0, "place": 2})
        self.assertEqual(vars(told(web, [0])), {"stone": 0, "place": 1})

    def test_no_push_at_all(self):
        self.assert_told([[]], [0] * 20, "lost")
        self.assert_told([[], [0], [2]], [0, 0], "lost")

    def test_several_on_one_place(self):
        web = samples.backward(8)
        for place in range(1, 8):
            for many in range(21):
                self.assert_told_and_behind(web, [place] * many, "won" if many % 2 else "lost")

    def test_the_stone_that_can_win_is_found_wherever_it_is(self):
        web = samples.backward(3)
        for at in range(20):
            stones = [0] * 20
            stones[at] = 2
            self.assertEqual(vars(told(web, stones)), {"stone": at, "place": 0})

    def test_just_one_list_with_the_sum_of_the_others_in_it(self):
        web = samples.backward(4) + [[0, 2, 3, 4]]
        self.assertEqual(worths(web), [0, 1, 2, 3, [0, 2, 3]])
        for stones in ([4], [4, 0], [4, 2], [3, 4], [4, 1, 3], [1, 2, 4], [2, 4, 2], [1, 4, 1, 0]):
            self.assert_told_and_behind(web, stones, "won")
        self.assertEqual(vars(told(web, [1, 2, 4])), {"stone": 2, "place": 3})

    def test_just_one_list_without_the_sum_of_the_others_in_it(self):
        web = samples.backward(4) + [[0, 2, 3, 4]]
        for stones in ([4, 1], [1, 4, 0], [2, 3, 4], [4, 3, 1, 3]):
            self.assert_told_and_behind(web, stones, "endless")
        # A sum beyond all numbers in the list.
        web = samples.backward(6) + [[0, 6]]
        self.assert_told_and_behind(web, [5, 6], "endless")
        self.assert_told_and_behind(web, [5, 6, 5], "won")
        self.assert_told_and_behind([[0]], [0], "endless")

    def test_two_and_more_lists(self):
        web = samples.backward(4) + [[0, 2, 3, 4]]
        for stones in ([4, 4], [4, 4, 0], [4, 2, 4], [4, 4, 4], [4] * 20, [4, 1, 4, 3, 4], [4] * 2 + [0] * 18):
            self.assert_told_and_behind(web, stones, "endless")

    def test_an_endless_push_that_needs_care(self):
        # A stone of two with a list that leaves it would let the other win with the last one.
        web = [[], [0, 1]]
        self.assertEqual(vars(told(web, [1, 1])), {"stone": 0, "place": 1})
        # With one list only a push of that stone back to its place goes on.
        web = [[0, 1], [2], []]
        self.assertEqual(vars(told(web, [0])), {"stone": 0, "place": 0})
        web = [[], [0], [1, 2]]
        self.assertEqual(vars(told(web, [2])), {"stone": 0, "place": 2})
        # No other stone than the last can be pushed.
        self.assertEqual(vars(told(web, [0, 0, 2])), {"stone": 2, "place": 2})

    def test_a_push_of_another_stone_can_be_endless(self):
        web = [[], [1], [0]]
        self.assert_told_and_behind(web, [1, 2], "endless")
        self.assert_told_and_behind(web, [2, 1], "endless")

    def test_20_stones(self):
        web = samples.backward(60)
        dice = random.Random(7)
        for turn in range(20):
            stones = [dice.randrange(60) for stone in range(20)]
            total = functools.reduce(operator.xor, stones)
            self.assert_told_and_behind(web, stones, "won" if total else "lost")
        self.assert_told_and_behind(web, list(range(20)), "lost")
        self.assert_told_and_behind(web, [59] * 20, "lost")
        self.assert_told_and_behind(samples.ring(60), list(range(20)), "endless")
        self.assert_told_and_behind([[0]], [0] * 20, "endless")

    def test_great_worths(self):
        web = samples.backward(60)
        self.assert_told_and_behind(web, [59], "won")
        self.assert_told_and_behind(web, [32, 31], "won")
        self.assertEqual(vars(told(web, [32, 31])), {"stone": 0, "place": 31})
        self.assert_told_and_behind(web, [32, 27, 59], "lost")
        self.assert_told_and_behind(web, [59, 58, 1], "lost")
        web = samples.backward(59) + [[17, 33, 58, 59]]
        self.assert_told_and_behind(web, [59, 58], "won")
        self.assert_told_and_behind(web, [32, 59, 1], "won")
        self.assert_told_and_behind(web, [32, 59, 2], "endless")
        self.assert_told_and_behind(web, [59], "endless")

    def test_by_the_worths_on_large_webs(self):
        for seed in range(12):
            dice = random.Random(seed)
            for many, most in ((12, 3), (30, 3), (60, 2), (60, 4), (60, 30)):
                web = samples.mixed_web(seed, many, most)
                numbers = [place for place, each in enumerate(worths(web)) if isinstance(each, int)]
                lists = [place for place in range(many) if place not in numbers]
                for count in (1, 2, 3, 19):
                    stones = [dice.randrange(many) for stone in range(count)]
                    self.assert_told_and_behind(web, stones, by_worths(web, stones))
                    if numbers:
                        stones = [dice.choice(numbers) for stone in range(count)]
                        self.assert_told_and_behind(web, stones, by_worths(web, stones))
                        if lists:
                            stones.insert(dice.randrange(count + 1), dice.choice(lists))
                            self.assert_told_and_behind(web, stones, by_worths(web, stones))

    def test_who_has_won_stays_so_till_the_end(self):
        # Whatever the other does, who has won and takes what is told is the last to push.
        for seed in range(12):
            dice = random.Random(seed)
            web = samples.backward(12) + [[0, 5, 11, 12]]
            stones = [12] + [dice.randrange(12) for stone in range(6)]
            for turn in range(200):
                answer = told(web, stones)
                if isinstance(answer, Won):
                    stones = pushed(web, stones, answer.stone, answer.place)
                    self.assertIsInstance(told(web, stones), Lost)
                pushes = [(stone, to) for stone, place in enumerate(stones) for to in web[place]]
                if not pushes:
                    break
                stones = pushed(web, stones, *dice.choice(pushes))


class Refusals(unittest.TestCase, samples.Checks):
    def test_webs_of_any_kind(self):
        for web in samples.bad_webs():
            self.assert_refused(BadWeb, told, web, [0])
            self.assert_refused(BadWeb, told, web, [])

    def test_stones_of_any_kind(self):
        for web in ([[]], [[0]], [[1, 2], [2], [0, 2], []], samples.full(59)):
            for stones in samples.bad_stones(web):
                self.assert_refused(BadStones, told, web, stones)

    def test_the_edges_of_places_and_stones(self):
        self.assertIsInstance(told(samples.full(60), [59] * 20), Endless)
        self.assert_refused(BadWeb, told, samples.full(61), [0])
        self.assert_refused(BadStones, told, samples.full(60), [59] * 21)
        self.assert_refused(BadStones, told, samples.full(60), [60])
        self.assert_refused(BadStones, told, samples.full(60), [-1])
        self.assert_refused(BadWeb, told, [], [])

    def test_web_before_stones(self):
        for stones in samples.bad_stones([[]]):
            self.assert_refused(BadWeb, told, [], stones)
            self.assert_refused(BadWeb, told, [[0, 0]], stones)
            self.assert_refused(BadWeb, told, None, stones)


class NothingChanged(unittest.TestCase, samples.Checks):
    def test_what_is_handed_in_stays(self):
        for web in samples.edge_webs() + [[[1, 0], []], [[2]], [[0, 0]]]:
            self.assert_untouched(told, web, [0, len(web) - 1, len(web) // 2])
            self.assert_untouched(told, web, [])
            self.assert_untouched(told, web, [0, 99])

    def test_what_is_told_is_new(self):
        for web, stones in (([[]], [0]), ([[1], []], [0]), ([[0]], [0])):
            first = told(web, stones)
            second = told(web, stones)
            self.assertIsNot(first, second)
            self.assertEqual((type(first), vars(first)), (type(second), vars(second)))
            first.stone = first.place = 9
            self.assertNotIn(9, vars(second).values())
            self.assertNotIn(9, vars(told(web, stones)).values())

    def test_the_same_lists_changed_are_answered_anew(self):
        web = [[1], []]
        stones = [0]
        self.assertIsInstance(told(web, stones), Won)
        stones[0] = 1
        self.assertIsInstance(told(web, stones), Lost)
        web[1].append(1)
        self.assertIsInstance(told(web, stones), Endless)
        web[1].insert(0, 0)
        web[0].clear()
        self.assertEqual(vars(told(web, stones)), {"stone": 0, "place": 0})
        self.assertIsInstance(told(web, stones), Won)
        stones.append(1)
        self.assertIsInstance(told(web, stones), Endless)
        stones.append(2)
        self.assert_refused(BadStones, told, web, stones)
        web[1].append(1)
        self.assert_refused(BadWeb, told, web, stones)

    def test_an_answer_told_before_stays_as_it_was(self):
        web = [[1], []]
        stones = [0]
        answer = told(web, stones)
        web[0].clear()
        stones.clear()
        self.assertEqual(vars(answer), {"stone": 0, "place": 1})
        self.assertIs(answer.shows([[1], []], [0]), True)


if __name__ == "__main__":
    unittest.main()
