"""Whose walks come to a place, which parts are gone twice, and two lots of starters [4, 17, 18]."""

from itertools import chain, combinations, product

from elsetold.lots import alike_from, gone_twice, told_apart, whose
from elsetold.webs import parts
from tests.support import (AskingCase, SlowTold, beside, big_web, edges_of, far_level, far_webs, hearings_of,
                           least_far_walks, places_of, slow_night, some_starters, some_webs, stretched,
                           stretched_place, three_folk_lots, unchanged)

END = 10 ** 12
A, B, C, D = [(name, name, 0) for name in "abcd"]
PAIR = (["a", "b"], [("a", "b", 1)])
FIVE = (["a", "b"], [("a", "b", 5)])
SIX = (["a", "b"], [("a", "b", 6)])
FAR = (["a", "b"], [("a", "b", END)])
NONE = (["a", "b", "c"], [])
# An odd round with one beyond it, a way of odd beats, one of even ones, and somebody alone.
PARTS = (["a", "b", "c", "d", "e", "f", "g", "h", "i"],
         [("a", "c", 1), ("a", "e", 1), ("b", "d", 3), ("c", "e", 1), ("e", "h", 4), ("f", "g", 2)])


def apart_by_the_night(web, starters, others):
    """Both answers of point 18, by the two nights' hearings; of a near web."""
    one, other = hearings_of(slow_night(web, starters)), hearings_of(slow_night(web, others))
    only = one ^ other
    folk = [(beat, place[0]) for place, beat in only if place[0] == place[1]]
    return max([beat + 1 for _, beat in only], default=0), min(folk, default=None)


class Whose(AskingCase):
    def test_ordinary(self):
        self.assert_told(["a"], whose, FIVE, ["a", "b"], ("a", "b", 2), 2)
        self.assert_told(["b"], whose, FIVE, ["a", "b"], ("a", "b", 2), 3)
        self.assert_told(["a", "b"], whose, SIX, ["b", "a"], ("a", "b", 2), 4)
        self.assert_told(["a"], whose, SIX, ["b", "a"], ("a", "b", 2), 2)
        self.assert_told([], whose, SIX, ["b", "a"], ("a", "b", 2), 3)

    def test_less_than_the_least(self):
        self.assert_told([], whose, FIVE, ["a", "b"], ("a", "b", 2), 0)
        self.assert_told([], whose, FIVE, ["a", "b"], ("a", "b", 2), 1)
        self.assert_told([], whose, FIVE, ["a"], B, 3)
        self.assert_told(["a"], whose, FIVE, ["a"], B, 5)

    def test_walks_may_turn_about(self):
        for more in [2, 4, 1000, END, 10 ** 39]:
            self.assert_told(["a"], whose, FIVE, ["a", "b"], ("a", "b", 2), 2 + more)
            self.assert_told(["a"], whose, PAIR, ["a", "b"], A, more)
            self.assert_told(["b"], whose, PAIR, ["a", "b"], A, 1 + more)

    def test_a_place_without_a_neighbour(self):
        self.assert_told(["a"], whose, NONE, ["a", "b"], A, 0)
        for beat in [1, 2, 3, 4, END, 10 ** 39]:
            self.assert_told([], whose, NONE, ["a", "b"], A, beat)
        self.assert_told([], whose, NONE, ["a", "b"], C, 0)
        self.assert_told(["i"], whose, PARTS, ["a", "i"], ("i", "i", 0), 0)
        self.assert_told([], whose, PARTS, ["a", "i"], ("i", "i", 0), 2)

    def test_at_beat_0_just_the_one_who_began(self):
        for name in "abc":
            self.assert_told([name], whose, PARTS, ["c", "b", "a"], (name, name, 0), 0)
        self.assert_told([], whose, PARTS, ["c", "b", "a"], D, 0)

    def test_from_other_parts_there_is_none(self):
        self.assert_told(["g"], whose, PARTS, list("abcdefghi"), ("g", "g", 0), 0)
        self.assert_told(["f", "g"], whose, PARTS, list("abcdefghi"), ("g", "g", 0), 2)
        self.assert_told(["f", "g"], whose, PARTS, list("ihgfedcba"), ("f", "g", 1), 1)
        for beat in range(6):
            self.assert_told([], whose, PARTS, ["a", "b", "i"], ("f", "g", 1), beat)

    def test_in_the_order_of_names(self):
        for lot in [["a", "c", "e", "h"], ["h", "e", "c", "a"], ["e", "a", "h", "c"]]:
            self.assert_told(["a", "c", "e"], whose, PARTS, lot, ("e", "e", 0), 2)
            self.assert_told(["a", "c", "e", "h"], whose, PARTS, lot, ("e", "e", 0), 4)

    def test_not_only_who_is_nearest(self):
        web = (["a", "b", "c"], [("a", "b", 2), ("b", "c", END)])
        self.assert_told(["a", "b"], whose, web, ["a", "b", "c"], A, 2)
        self.assert_told(["a", "b"], whose, web, ["a", "b", "c"], A, END)
        self.assert_told(["a", "b", "c"], whose, web, ["a", "b", "c"], A, END + 2)

    def test_all_beats_of_near_webs_step_by_step(self):
        for at, web in enumerate(some_webs(401, 50, 6, 5)):
            starters = some_starters(at, web[0])
            near = beside(web)
            for place in near:
                # Who can be at a place behind so many beats, by going on or back at each of them.
                met = {place}
                for beat in range(14):
                    told = sorted([name for name in starters if (name, name, 0) in met])
                    self.assertEqual(unchanged(self, whose, web, starters, place, beat), told)
                    met = {there for here in met for there in near[here]}

    def test_far_webs(self):
        for at, web in enumerate(far_webs(403, 25)):
            starters = some_starters(at, web[0])
            least = {name: least_far_walks(web, [name]) for name in starters}
            for place in places_of(web)[::3]:
                for kind in (0, 1):
                    levels = {name: far_level(web, least[name], place, kind) for name in starters}
                    for beat in [level for level in levels.values() if level is not None]:
                        told = [name for name in sorted(starters) if levels[name] is not None and levels[name] <= beat]
                        self.assertEqual(unchanged(self, whose, web, starters, place, beat),
                                         told if beat or place[0] != place[1] else [place[0]])


class GoneTwice(AskingCase):
    def test_odd_rounds(self):
        for name in "aceh":
            self.assert_told([["a", "c", "e", "h"]], gone_twice, PARTS, [name])

    def test_two_who_are_an_odd_walk_apart(self):
        self.assert_told([["b", "d"]], gone_twice, PARTS, ["d", "b"])
        self.assert_told([], gone_twice, PARTS, ["b"])
        self.assert_told([], gone_twice, PARTS, ["d"])
        self.assert_told([], gone_twice, PARTS, ["f", "g"])
        self.assert_told([], gone_twice, PARTS, ["f", "g", "b", "i"])

    def test_by_their_first_ones(self):
        self.assert_told([["a", "c", "e", "h"], ["b", "d"]], gone_twice, PARTS, list("ihgfedcba"))

    def test_nobody_begins_or_alone(self):
        self.assert_told([], gone_twice, PARTS, ["i"])
        self.assert_told([], gone_twice, NONE, ["a", "b", "c"])
        self.assert_told([["a", "c", "e", "h"]], gone_twice, PARTS, ["h", "i"])

    def test_far(self):
        self.assert_told([], gone_twice, FAR, ["a", "b"])
        self.assert_told([["a", "b"]], gone_twice, (["a", "b"], [("a", "b", END - 1)]), ["a", "b"])
        self.assert_told([], gone_twice, (["a", "b"], [("a", "b", END - 1)]), ["a"])

    def test_as_the_night_goes(self):
        for at, web in enumerate(some_webs(407, 120, 9, 5)):
            starters = some_starters(at, web[0])
            gone = {edge: 0 for edge in edges_of(web)}
            for one, other in chain.from_iterable(slow_night(web, starters)):
                gone[(one, other) if (one, other) in gone else (other, one)] += 1
            twice = {edge[0][0] for edge, many in gone.items() if many == 2}
            self.assertLessEqual(set(gone.values()), {0, 1, 2})
            told = [part for part in parts(web) if twice & set(part)]
            self.assert_told(told, gone_twice, web, starters)


class TwoLots(AskingCase):
    def assert_apart(self, beat, least, web, starters, others):
        """Both answers, by the two lots in either order."""
        for one, other in [(starters, others), (others, starters)]:
            self.assert_told(beat, alike_from, web, one, other)
            self.assert_told(least, told_apart, web, one, other)

    def test_the_same_lots(self):
        for lot in [["a"], ["a", "b"], ["e", "b", "f"], list("abcdefghi")]:
            self.assert_apart(0, None, PARTS, lot, lot)
            self.assert_apart(0, None, PARTS, lot, lot[::-1])

    def test_nights_that_are_the_same_though_the_lots_are_not(self):
        self.assert_apart(0, None, NONE, ["a"], ["b", "c"])
        self.assert_apart(0, None, PARTS, ["a"], ["i", "a"])
        self.assert_apart(0, None, (["a", "b"], []), ["a"], ["a", "b"])

    def test_two_ends(self):
        self.assert_apart(2, (1, "a"), PAIR, ["a"], ["b"])
        self.assert_apart(6, (5, "a"), FIVE, ["a"], ["b"])
        self.assert_apart(7, (6, "a"), SIX, ["a"], ["b"])
        self.assert_apart(END + 1, (END, "a"), FAR, ["a"], ["b"])

    def test_one_within_the_other(self):
        self.assert_apart(2, (1, "a"), PAIR, ["a"], ["b", "a"])
        self.assert_apart(6, (5, "a"), FIVE, ["a"], ["a", "b"])
        # By both none of the folk hears, by a alone b does.
        self.assert_apart(7, (6, "b"), SIX, ["a"], ["a", "b"])
        self.assert_apart(END + 1, (END, "b"), FAR, ["a"], ["a", "b"])

    def test_in_different_parts(self):
        self.assert_apart(4, (2, "g"), PARTS, ["b"], ["f"])
        self.assert_apart(3, (2, "g"), PARTS, ["i"], ["f"])
        self.assert_apart(3, (2, "f"), PARTS, ["a", "b", "f"], ["b", "a", "g"])

    def test_alike_again_where_a_walk_is_as_long_from_both(self):
        folk = ["a", "b", "c", "d"]
        web = (folk, [("a", "c", 1), ("b", "c", 1), ("c", "d", END)])
        self.assert_apart(3, (2, "a"), web, ["a"], ["b"])
        self.assert_apart(END + 2, (1, "a"), web, ["c"], ["b"])

    def test_the_spots_alone_are_apart_where_no_name_is(self):
        self.assert_apart(4, None, (["a", "b", "c"], [("a", "b", 6)]), ["a", "b"], ["c"])
        self.assert_apart(END // 2 + 1, None, (["a", "b", "c"], [("a", "b", END)]), ["a", "b", "c"], ["c"])
        # In an odd part both of its folk hear, at the beat of the way.
        self.assert_apart(6, (5, "a"), (["a", "b", "c"], [("a", "b", 5)]), ["a", "b"], ["c"])

    def test_a_spot_may_be_the_last_one(self):
        # By either lot both sides meet on the long way at 12, but at two spots.
        web = (["a", "b", "c", "d"], [("a", "b", 1), ("a", "c", 20), ("b", "d", 1), ("c", "d", 2)])
        self.assertEqual(apart_by_the_night(web, ["a"], ["d"]), (13, (2, "a")))
        self.assert_apart(13, (2, "a"), web, ["a"], ["d"])

    def test_the_least_name_of_the_least_beat(self):
        star = (["a", "b", "c", "d"], [("a", "d", 2), ("b", "d", 1), ("c", "d", 1)])
        self.assert_apart(4, (1, "b"), star, ["d"], ["a"])
        self.assert_apart(3, (2, "b"), star, ["b"], ["c"])

    def test_all_webs_of_three_folk_and_all_lots(self):
        for web, lots in three_folk_lots([0, 1, 2, 3, 6]):
            nights = {lot: hearings_of(slow_night(web, lot)) for lot in lots}
            for one, other in product(lots, repeat=2):
                only = nights[one] ^ nights[other]
                folk = [(beat, place[0]) for place, beat in only if place[0] == place[1]]
                self.assertEqual(alike_from(web, one, other), max([beat + 1 for _, beat in only], default=0))
                self.assertEqual(told_apart(web, one, other), min(folk, default=None))

    def test_many_webs(self):
        for at, web in enumerate(some_webs(409, 250, 8, 9)):
            starters, others = some_starters(at, web[0]), some_starters(at + 5000, web[0])
            self.assert_apart(*apart_by_the_night(web, starters, others), web, starters, others)

    def test_longer_ways(self):
        for at, (folk, ways) in enumerate(some_webs(411, 120, 5, 4)):
            web = (folk, [(one, other, beats * 7 + number) for number, (one, other, beats) in enumerate(ways)])
            starters, others = some_starters(at, folk), some_starters(at + 5000, folk)
            self.assert_apart(*apart_by_the_night(web, starters, others), web, starters, others)

    def test_stretched_webs(self):
        by = 111111111111
        for at, web in enumerate(some_webs(413, 120, 8, 9)):
            starters, others = some_starters(at, web[0]), some_starters(at + 5000, web[0])
            beat, least = apart_by_the_night(web, starters, others)
            far = stretched(web, by)
            self.assert_apart((beat - 1) * by + 1 if beat else 0, least and (least[0] * by, least[1]), far, starters, others)
            for place in list(beside(web))[::5]:
                for now in (0, 1, 2, 3, 9):
                    self.assertEqual(whose(far, starters, stretched_place(place, by), now * by),
                                     whose(web, starters, place, now))

    def test_far_webs(self):
        for at, web in enumerate(far_webs(415, 60)):
            starters, others = some_starters(at, web[0]), some_starters(at + 5000, web[0])
            one, other = least_far_walks(web, starters), least_far_walks(web, others)
            names = [(beat, key[0]) for key in set(one) | set(other) if one.get(key) != other.get(key)
                     for beat in (one.get(key), other.get(key)) if beat]
            self.assert_told(min(names, default=None), told_apart, web, starters, others)
            beat = unchanged(self, alike_from, web, starters, others)
            self.assertEqual(alike_from(web, others, starters), beat)
            self.assertGreater(beat + 1, max([each for each, _ in names], default=0))
            for now in [beat, beat + 1, beat + 2, beat + END]:
                self.assertEqual(self.hearers(web, one, now), self.hearers(web, other, now))
            if beat:
                self.assertNotEqual(self.hearers(web, one, beat - 1), self.hearers(web, other, beat - 1))

    def hearers(self, web, least, now):
        """The places that hear at a beat: of each way only those that can be reached at it."""
        found = {key[0] for key, beat in least.items() if beat == now > 0}
        for one, other, beats in web[1]:
            for kind in (0, 1):
                if (one, kind) in least:
                    for number in [now - least[(one, kind)], beats + least[(other, (kind + beats) % 2)] - now]:
                        spot = (one, other, number)
                        if 1 <= number < beats and far_level(web, least, spot, now % 2) == now:
                            found.add(spot)
        return found

    def test_sixty_folk_and_a_hundred_and_fifty_ways(self):
        web, by = big_web(), 333333333333
        lots = [["aa"], ["fc"], ["ae", "fc"], ["fh"], web[0], web[0][:30]]
        for starters, others in combinations(lots, 2):
            beat, least = apart_by_the_night(web, starters, others)
            self.assert_apart(beat, least, web, starters, others)
            self.assert_apart((beat - 1) * by + 1 if beat else 0, least and (least[0] * by, least[1]),
                              stretched(web, by), starters, others)

    def test_the_big_web_is_told_as_the_night_has_it(self):
        slow = SlowTold(big_web(), ["ba"])
        self.assert_told(len(slow.night) + 1, alike_from, big_web(), ["ba"], ["fj"])
