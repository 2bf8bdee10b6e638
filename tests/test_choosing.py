"""Who should begin: alone, for a place, or two together [4, 24, 25]."""

from itertools import combinations, product
from unittest.mock import ANY

from elsetold.choosing import alone_by, best_two, latest, soonest
from elsetold.counts import last_beat
from elsetold.errors import NoBeat, NoPlace, NoWeb
from elsetold.reaches import hearings
from elsetold.webs import parts
from tests.support import (END, NO_PLACES, NO_WEBS, ODD_THINGS, WEB, AskingCase, beside, big_web, far_level,
                           far_webs, hearings_of, least_far_walks, listed, places_of, slow_night, some_webs, stretched,
                           stretched_place, three_folk_lots, tupled, web_of)

A, B, C = [(name, name, 0) for name in "abc"]
PAIR = (["a", "b"], [("a", "b", 1)])
ROW = (["a", "b", "c", "d"], [("a", "b", 2), ("b", "c", 3), ("c", "d", 2)])
# No rising list of whole numbers from 1 on.
NO_LISTS = [None, 1, "1", {}, {1}, {1: 1}, "", [0], [-1], [2, 1], [1, 1], [1, 2, 2], [True], [1, True], [False], [None],
            ["1"], [[1]], [1, None], ANY, [ANY], (0,), (3, 1), [1, 3, 2], [10 ** 39, 1]]


def lasts(web):
    """The last beat of each one who begins alone in a near web."""
    return {name: len(slow_night(web, [name])) for name in web[0]}


def best_of(web):
    """The least tuple of two, by the nights of all pairs of a near web."""
    found = []
    for pair in combinations(web[0], 2):
        night = slow_night(web, pair)
        heard = {place[0] for place, _ in hearings_of(night) if place[0] == place[1]}
        if heard | set(pair) == set(web[0]):
            found.append((len(night), *pair))
    return min(found, default=None)


def last_by(web, least):
    """The last hearing of any web, by the least walks to its folk: at the places where both sides of a way meet."""
    found = [0, *least.values()]
    for one, other, beats in web[1]:
        for kind in (0, 1):
            if (one, kind) in least:
                start, end = least[(one, kind)], least[(other, (kind + beats) % 2)]
                for number in range((end + beats - start) // 2 - 1, (end + beats - start) // 2 + 2):
                    if 1 <= number < beats:
                        found.append(far_level(web, least, (one, other, number), (start + number) % 2))
    return max(found)


class Alone(AskingCase):
    def assert_chosen(self, web, early, late):
        self.assert_told(early, soonest, web)
        self.assert_told(late, latest, web)
        self.assertEqual([soonest(web)[1].__class__, latest(web)[1].__class__], [list, list])

    def test_ordinary(self):
        self.assert_chosen(ROW, (5, ["b", "c"]), (7, ["a", "d"]))
        self.assert_chosen((["a", "b", "c"], [("a", "b", 2), ("b", "c", 3)]), (3, ["b"]), (5, ["a", "c"]))

    def test_folk_alone(self):
        self.assert_chosen((["a"], []), (0, ["a"]), (0, ["a"]))
        self.assert_chosen((["a", "b", "c"], []), (0, ["a", "b", "c"]), (0, ["a", "b", "c"]))
        self.assert_chosen((["a", "b", "c"], [("a", "c", 4)]), (0, ["b"]), (4, ["a", "c"]))

    def test_two(self):
        self.assert_chosen(PAIR, (1, ["a", "b"]), (1, ["a", "b"]))
        self.assert_chosen((["a", "b"], [("a", "b", END)]), (END, ["a", "b"]), (END, ["a", "b"]))

    def test_only_ones_own_part_counts(self):
        web = (list("abcde"), [("a", "c", 5), ("b", "d", 2), ("d", "e", 1)])
        self.assert_chosen(web, (2, ["d"]), (5, ["a", "c"]))

    def test_the_cry_comes_back_in_an_odd_round(self):
        web = (["a", "b", "c"], [("a", "b", 1), ("a", "c", 1), ("b", "c", 1)])
        self.assert_chosen(web, (3, ["a", "b", "c"]), (3, ["a", "b", "c"]))
        tail = (["a", "b", "c", "d"], [*web[1][:2], ("b", "c", 1), ("c", "d", 2)])
        self.assert_chosen(tail, (4, ["a", "b"]), (7, ["d"]))

    def test_the_last_one_may_be_a_spot(self):
        web = (["a", "b", "c"], [("a", "b", 1), ("a", "c", 1), ("b", "c", 6)])
        self.assert_chosen(web, (4, ["a", "b", "c"]), (4, ["a", "b", "c"]))

    def test_all_webs_of_three_folk(self):
        for web, _ in three_folk_lots([0, 1, 2, 3, 4, 7]):
            self.assert_by(web, lasts(web))

    def test_many_webs(self):
        for web in some_webs(701, 80, 8, 7):
            self.assert_by(web, lasts(web))

    def test_far_webs(self):
        for web in far_webs(703, 60):
            found = {name: last_by(web, least_far_walks(web, [name])) for name in web[0]}
            self.assert_by(web, found)
            self.assertEqual(found, {name: last_beat(web, [name]) for name in web[0]})

    def assert_by(self, web, found):
        early, late = min(found.values()), max(found.values())
        self.assert_chosen(web, (early, [name for name in web[0] if found[name] == early]),
                           (late, [name for name in web[0] if found[name] == late]))

    def test_sixty_folk_and_a_hundred_and_fifty_ways(self):
        web, by = big_web(), 333333333333
        self.assert_by(web, lasts(web))
        for call in [soonest, latest]:
            beat, names = call(web)
            self.assert_told((beat * by, names), call, stretched(web, by))

    def test_no_web(self):
        for call in [soonest, latest, best_two]:
            for web in NO_WEBS:
                self.assert_refused(NoWeb, call, web)

    def test_lists_and_tuples_and_names(self):
        for call in [soonest, latest, best_two]:
            for web in [ROW, WEB, stretched(WEB, 10 ** 11)]:
                told = call(web)
                self.assert_told(told, call, listed(web))
                self.assert_told(told, call, tupled(web))
                self.assertEqual(call(web=web), told)

    def test_the_names_are_the_askers_own(self):
        for call in [soonest, latest]:
            web = listed(ROW)
            told = call(web)
            told[1].append("z")
            self.assertEqual(web, listed(ROW))
            self.assertEqual(call(web), call(ROW))
            self.assertNotIn("z", call(web)[1])


class AloneBy(AskingCase):
    def test_ordinary(self):
        self.assert_told(["a"], alone_by, ROW, B, [2])
        self.assert_told(["c"], alone_by, ROW, B, [3])
        self.assert_told(["d"], alone_by, ROW, B, [5])
        self.assert_told([], alone_by, ROW, B, [4])
        self.assert_told([], alone_by, ROW, B, [2, 3])

    def test_a_spot(self):
        self.assert_told(["b"], alone_by, ROW, ("b", "c", 1), [1])
        self.assert_told(["a"], alone_by, ROW, ("b", "c", 1), [3])
        self.assert_told(["c"], alone_by, ROW, ("b", "c", 1), [2])
        self.assert_told(["d"], alone_by, ROW, ("b", "c", 1), [4])

    def test_the_empty_list(self):
        self.assert_told(["b"], alone_by, ROW, B, [])
        self.assert_told(["a", "b", "c"], alone_by, (["a", "b", "c"], []), B, ())
        self.assert_told(["b", "c"], alone_by, (["a", "b", "c"], [("a", "c", 4)]), C, [])
        self.assert_told(["b"], alone_by, (["a", "b", "c"], [("a", "c", 4)]), ("a", "c", 1), [])

    def test_two_beats(self):
        web = (["a", "b", "c"], [("a", "b", 1), ("a", "c", 1), ("b", "c", 1)])
        self.assert_told(["b", "c"], alone_by, web, A, [1, 2])
        self.assert_told(["a"], alone_by, web, A, [3])
        self.assert_told([], alone_by, web, A, [1])
        self.assert_told([], alone_by, web, A, [2])
        self.assert_told([], alone_by, web, A, [1, 2, 3])
        self.assert_told([], alone_by, web, A, list(range(1, 400)))

    def test_several_rise(self):
        star = (["a", "b", "c", "d"], [("a", "b", 3), ("b", "c", 3), ("b", "d", 3)])
        self.assert_told(["a", "c", "d"], alone_by, star, B, [3])

    def test_far(self):
        web = (["a", "b", "c"], [("a", "b", END), ("b", "c", END - 1)])
        self.assert_told(["a"], alone_by, web, C, [2 * END - 1])
        self.assert_told(["b"], alone_by, web, ("a", "b", END - 1), [1])
        self.assert_told([], alone_by, web, C, [10 ** 39])

    def test_all_hearings_of_webs(self):
        for web in some_webs(705, 40, 7, 6):
            nights = {name: hearings_of(slow_night(web, [name])) for name in web[0]}
            for place in beside(web):
                heard = {name: sorted([beat for here, beat in nights[name] if here == place]) for name in web[0]}
                for beats in [*heard.values(), [1], []]:
                    self.assert_told([name for name in web[0] if heard[name] == beats], alone_by, web, place, beats)

    def test_far_webs(self):
        for web in far_webs(707, 15):
            for place in places_of(web)[::9]:
                heard = {name: hearings(web, [name], place) for name in web[0]}
                for beats in [*heard.values(), []]:
                    self.assert_told([name for name in web[0] if heard[name] == beats], alone_by, web, place, beats)

    def test_stretched_webs(self):
        web, by = big_web(), 333333333333
        for place in list(beside(web))[::30]:
            for beats in [[], hearings(web, ["aa"], place), hearings(web, ["fc"], place)]:
                self.assert_told(alone_by(web, place, beats), alone_by, stretched(web, by), stretched_place(place, by),
                                 [beat * by for beat in beats])

    def test_lists_and_tuples_and_names(self):
        for beats in [[2], (2,)]:
            for place in [B, list(B)]:
                self.assert_told(["a"], alone_by, listed(ROW), place, beats)
        self.assertEqual(alone_by(beats=[2], place=B, web=tupled(ROW)), ["a"])

    def test_no_beats(self):
        for beats in NO_LISTS:
            self.assert_refused(NoBeat, alone_by, WEB, ("cat", "cat", 0), beats)
        for thing in ODD_THINGS:
            if thing not in ([], (), [1, 2], (1, 2, 3)) or not isinstance(thing, (list, tuple)):
                self.assert_refused(NoBeat, alone_by, WEB, ("cat", "cat", 0), thing)

    def test_no_place(self):
        for place in NO_PLACES + ODD_THINGS:
            for beats in [[1], None, [2, 1]]:
                self.assert_refused(NoPlace, alone_by, WEB, place, beats)

    def test_no_web(self):
        for web in NO_WEBS:
            self.assert_refused(NoWeb, alone_by, web, ("fay", "fay", 0), [0])
            self.assert_refused(NoWeb, alone_by, web, ("ann", "ann", 0), [1])


class BestTwo(AskingCase):
    def test_ordinary(self):
        # By two of even walks apart the cry goes each beat once, by two of odd ones twice.
        self.assert_told((3, "a", "c"), best_two, (["a", "b", "c"], [("a", "b", 3), ("b", "c", 3)]))
        self.assert_told((2, "a", "b"), best_two, (["a", "b", "c"], [("a", "b", 4), ("b", "c", 2)]))
        self.assert_told((3, "b", "c"), best_two, (["a", "b", "c"], [("a", "b", 3), ("b", "c", 2)]))

    def test_fewer_than_three(self):
        self.assert_told(None, best_two, (["a"], []))
        self.assert_told((0, "a", "b"), best_two, (["a", "b"], []))
        self.assert_told((1, "a", "b"), best_two, PAIR)
        self.assert_told((1, "a", "b"), best_two, (["a", "b"], [("a", "b", 2)]))
        self.assert_told((END // 2, "a", "b"), best_two, (["a", "b"], [("a", "b", END)]))
        self.assert_told((END - 1, "a", "b"), best_two, (["a", "b"], [("a", "b", END - 1)]))

    def test_parts(self):
        self.assert_told(None, best_two, (["a", "b", "c"], []))
        self.assert_told((4, "a", "b"), best_two, (["a", "b", "c"], [("a", "c", 4)]))
        self.assert_told((3, "a", "b"), best_two, (["a", "b", "c", "d"], [("a", "c", 3), ("b", "d", 2)]))
        self.assert_told(None, best_two, (["a", "b", "c", "d"], [("a", "c", 3)]))
        self.assert_told(None, best_two, (list("abcdef"), [("a", "b", 1), ("c", "d", 1), ("e", "f", 1)]))

    def test_the_least_names_of_the_least_beat(self):
        star = (["a", "b", "c", "d"], [("a", "d", 1), ("b", "d", 1), ("c", "d", 1)])
        self.assert_told((2, "a", "b"), best_two, star)

    def test_each_other_one_hears_though_these_two_need_not(self):
        # a and b hear nobody, c hears both.
        web = (["a", "b", "c"], [("a", "c", 2), ("b", "c", 2)])
        self.assert_told((2, "a", "b"), best_two, web)
        self.assertEqual([hearings(web, ["a", "b"], place) for place in (A, B, C)], [[], [], [2]])

    def test_all_webs_of_three_folk(self):
        for web, _ in three_folk_lots([0, 1, 2, 3, 4, 7]):
            self.assert_told(best_of(web), best_two, web)

    def test_all_short_webs_of_four(self):
        pairs = list(combinations("abcd", 2))
        for number in range(3 ** 6):
            row = [number // 3 ** at % 3 for at in range(6)]
            web = web_of("abcd", {pair: beats for pair, beats in zip(pairs, row) if beats})
            self.assert_told(best_of(web), best_two, web)

    def test_many_webs(self):
        for web in some_webs(709, 100, 8, 7):
            self.assert_told(best_of(web), best_two, web)

    def test_far_webs(self):
        for web in far_webs(711, 40):
            found = []
            for pair in combinations(web[0], 2):
                least = least_far_walks(web, pair)
                if {name for name, _ in least} == set(web[0]):
                    found.append((last_by(web, least), *pair))
            self.assert_told(min(found, default=None), best_two, web)

    def test_sixty_folk_and_a_hundred_and_fifty_ways(self):
        folk, ways = big_web()
        self.assert_told(None, best_two, (folk, ways))
        linked = (folk, sorted([way for way in ways if way[:2] != ("ba", "bb")] + [("dd", "fj", 2)]))
        first, second = parts(linked)
        beat, one, other = best_two(linked)
        self.assertEqual(beat, last_beat(linked, [one, other]))
        for two in product([one, *first[::7]], [other, *second[::5]]):
            self.assertLessEqual((beat, one, other), (last_beat(linked, two), *sorted(two)))
        by = 333333333333
        self.assert_told((beat * by, one, other), best_two, stretched(linked, by))


class Whole(AskingCase):
    def test_two_together_are_never_later_than_each_alone_of_one_part(self):
        for web in some_webs(713, 40, 8, 7):
            for name in web[0]:
                self.assertLessEqual(soonest(web)[0], last_beat(web, [name]))
                self.assertGreaterEqual(latest(web)[0], last_beat(web, [name]))
            told = best_two(web)
            if told:
                beat, one, other = told
                self.assertEqual(beat, last_beat(web, [one, other]))
                self.assertLessEqual(beat, max(last_beat(web, [one]), last_beat(web, [other])))
