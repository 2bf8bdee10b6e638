"""A place's reaches and hearings, of whom it hears, and whom it tells when [4, 10, 11, 12]."""

from elsetold.errors import NoNeighbour, NoPlace
from elsetold.reaches import heard_of, hearings, reaches, tells, told_at
from elsetold.webs import neighbours
from tests.support import (AskingCase, SlowTold, big_web, far_level, far_webs, least_far_walks, places_of,
                           some_starters, some_webs, stretched, stretched_place, three_folk_lots, unchanged)

END = 10 ** 12
A, B, C, D = [(name, name, 0) for name in "abcd"]
PAIR = (["a", "b"], [("a", "b", 1)])
FIVE = (["a", "b"], [("a", "b", 5)])
SIX = (["a", "b"], [("a", "b", 6)])
FAR = (["a", "b", "c", "d"], [("a", "b", END), ("c", "d", 3)])
THREE = (["a", "b", "c"], [("a", "b", 1), ("a", "c", 1), ("b", "c", 1)])


class Case(AskingCase):
    def assert_as_by_the_night(self, web, starters):
        """All five functions, of every place and of all beats till the night is quiet, held against the night."""
        slow = SlowTold(web, starters)
        beats = range(len(slow.night) + 3)
        for place, near in slow.near.items():
            self.assertEqual(reaches(web, starters, place), slow.reaches(place))
            self.assertEqual(hearings(web, starters, place), sorted(slow.heard_of[place]))
            for beat in beats:
                self.assertEqual(heard_of(web, starters, place, beat), slow.heard_of[place].get(beat, []))
                self.assertEqual(tells(web, starters, place, beat), slow.tells[place].get(beat, []))
            for other in near:
                at = [beat for beat in beats if other in slow.tells[place].get(beat, [])]
                self.assertEqual(told_at(web, starters, place, other), at)


class Reaches(Case):
    def test_along_a_way(self):
        self.assert_told((0, None), reaches, FIVE, ["a"], A)
        self.assert_told((None, 5), reaches, FIVE, ["a"], B)
        self.assert_told((None, 1), reaches, FIVE, ["a"], ("a", "b", 1))
        self.assert_told((4, None), reaches, FIVE, ["a"], ("a", "b", 4))
        self.assert_told((4, None), reaches, FIVE, ["b"], ("a", "b", 1))

    def test_both_ends_begin(self):
        self.assert_told((0, 5), reaches, FIVE, ["a", "b"], A)
        self.assert_told((2, 3), reaches, FIVE, ["a", "b"], ("a", "b", 2))
        self.assert_told((4, 1), reaches, FIVE, ["a", "b"], ("a", "b", 1))
        self.assert_told((0, None), reaches, SIX, ["b", "a"], A)
        self.assert_told((None, 3), reaches, SIX, ["b", "a"], ("a", "b", 3))
        self.assert_told((2, None), reaches, SIX, ["b", "a"], ("a", "b", 4))

    def test_somebody_alone(self):
        for web in [(["a"], []), (["a", "b"], []), (["a", "b", "c"], [("b", "c", 4)])]:
            self.assert_told((0, None), reaches, web, ["a"], A)
            self.assert_told([], hearings, web, ["a"], A)
        self.assert_told((None, None), reaches, (["a", "b"], []), ["b"], A)
        self.assert_told([], hearings, (["a", "b"], []), ["b"], A)

    def test_parts_in_which_nobody_begins(self):
        for place in [C, D, ("c", "d", 1), ("c", "d", 2)]:
            self.assert_told((None, None), reaches, FAR, ["a"], place)
            self.assert_told([], hearings, FAR, ["a"], place)
            for beat in range(5):
                self.assert_told([], heard_of, FAR, ["a"], place, beat)
                self.assert_told([], tells, FAR, ["a"], place, beat)
        self.assert_told([], told_at, FAR, ["a"], C, ("c", "d", 1))
        self.assert_told([], told_at, FAR, ["a"], ("c", "d", 1), ("c", "d", 2))
        self.assert_told((None, END - 1), reaches, FAR, ["b", "c"], ("a", "b", 1))

    def test_who_began_has_the_reach_0_and_no_hearing_at_it(self):
        self.assert_told((0, 1), reaches, PAIR, ["a", "b"], A)
        self.assert_told([1], hearings, PAIR, ["a", "b"], A)
        self.assert_told([], hearings, PAIR, ["a"], A)
        self.assert_told((0, 3), reaches, THREE, ["a"], A)
        self.assert_told([3], hearings, THREE, ["a"], A)
        self.assert_told([1, 2], hearings, THREE, ["a"], B)

    def test_a_walk_may_turn_about_but_is_never_less_for_it(self):
        web = (["a", "b", "c", "d"], [("a", "b", 2), ("b", "c", 3), ("b", "d", 3), ("c", "d", 3)])
        self.assert_told((0, 13), reaches, web, ["a"], A)
        self.assert_told((12, 1), reaches, web, ["a"], ("a", "b", 1))

    def test_far(self):
        self.assert_told((0, None), reaches, FAR, ["a"], A)
        self.assert_told((END, None), reaches, FAR, ["a"], B)
        self.assert_told([END], hearings, FAR, ["a"], B)
        self.assert_told((None, 1), reaches, FAR, ["a"], ("a", "b", 1))
        self.assert_told((None, END - 1), reaches, FAR, ["a"], ("a", "b", END - 1))
        self.assert_told((END // 2, None), reaches, FAR, ["a", "b"], ("a", "b", END // 2))
        self.assert_told([END // 2 - 1], hearings, FAR, ["a", "b"], ("a", "b", END // 2 + 1))

    def test_a_round_of_long_and_short_ways(self):
        web = (["a", "b", "c"], [("a", "b", END), ("a", "c", END - 1), ("b", "c", 2)])
        self.assert_told((0, 2 * END + 1), reaches, web, ["a"], A)
        self.assert_told((END, END + 1), reaches, web, ["a"], B)
        self.assert_told((END, END + 1), reaches, web, ["a"], ("b", "c", 1))
        self.assert_told((2 * END, 1), reaches, web, ["a"], ("a", "b", 1))


class Night(Case):
    def test_all_webs_of_three_folk(self):
        for web, lots in three_folk_lots([0, 1, 2, 3]):
            for lot in lots:
                self.assert_as_by_the_night(web, list(lot))

    def test_one_way_of_any_length(self):
        for beats in range(1, 14):
            for lot in [["a"], ["b"], ["a", "b"]]:
                self.assert_as_by_the_night((["a", "b"], [("a", "b", beats)]), lot)

    def test_many_webs(self):
        for at, web in enumerate(some_webs(101, 40, 7, 5)):
            self.assert_as_by_the_night(web, some_starters(at, web[0]))

    def test_stretched_webs(self):
        by = 111111111111
        for at, web in enumerate(some_webs(103, 40, 8, 9)):
            starters = some_starters(at, web[0])
            slow = SlowTold(web, starters)
            far = stretched(web, by)
            for place in slow.near:
                reached = tuple([None if beats is None else beats * by for beats in slow.reaches(place)])
                self.assertEqual(reaches(far, starters, stretched_place(place, by)), reached)
                heard = [beat * by for beat in sorted(slow.heard_of[place])]
                self.assertEqual(hearings(far, starters, stretched_place(place, by)), heard)

    def test_long_and_short_ways_side_by_side(self):
        for at, web in enumerate(far_webs(107, 40)):
            starters = some_starters(at, web[0])
            least = least_far_walks(web, starters)
            for place in places_of(web):
                levels = tuple([far_level(web, least, place, kind) for kind in (0, 1)])
                self.assertEqual(reaches(web, starters, place), levels)
                self.assertEqual(hearings(web, starters, place), sorted([beat for beat in levels if beat]))
                self.assert_hears_and_tells(web, starters, least, place, levels)

    def assert_hears_and_tells(self, web, starters, least, place, levels):
        """A neighbour tells the place where it is reached a beat ahead, and is told where it is reached a beat later."""
        near = neighbours(web, place)
        gone = {other: [] for other in near}
        for kind, beat in enumerate(levels):
            if beat is not None:
                sooner = [other for other in near if far_level(web, least, other, 1 - kind) == beat - 1]
                later = [other for other in near if far_level(web, least, other, 1 - kind) == beat + 1]
                self.assertEqual(sorted(sooner + later), near)
                self.assertEqual(heard_of(web, starters, place, beat), sooner)
                self.assertEqual(tells(web, starters, place, beat), later)
                for other in later:
                    gone[other].append(beat)
        for other in near:
            self.assertEqual(told_at(web, starters, place, other), sorted(gone[other]))

    def test_sixty_folk_and_a_hundred_and_fifty_ways(self):
        web, starters, by = big_web(), ["ae", "fc"], 333333333333
        slow = SlowTold(web, starters)
        far = stretched(web, by)
        for place in list(slow.near)[::7]:
            heard = sorted(slow.heard_of[place])
            self.assertEqual(hearings(web, starters, place), heard)
            self.assertEqual(hearings(far, starters, stretched_place(place, by)), [beat * by for beat in heard])
            for beat in heard:
                self.assertEqual(heard_of(web, starters, place, beat), slow.heard_of[place][beat])
                self.assertEqual(tells(web, starters, place, beat), slow.tells[place].get(beat, []))


class HeardOfAndTells(Case):
    def test_spots_beside_an_end_and_in_the_middle(self):
        self.assert_told([A], heard_of, FIVE, ["a"], ("a", "b", 1), 1)
        self.assert_told([("a", "b", 2)], tells, FIVE, ["a"], ("a", "b", 1), 1)
        self.assert_told([("a", "b", 2)], heard_of, FIVE, ["a"], ("a", "b", 3), 3)
        self.assert_told([("a", "b", 4)], tells, FIVE, ["a"], ("a", "b", 3), 3)
        self.assert_told([B], tells, FIVE, ["a"], ("a", "b", 4), 4)
        self.assert_told([("a", "b", 4)], heard_of, FIVE, ["a"], B, 5)
        self.assert_told([], tells, FIVE, ["a"], B, 5)

    def test_where_both_sides_of_a_way_meet(self):
        self.assert_told([("a", "b", 2), ("a", "b", 4)], heard_of, SIX, ["a", "b"], ("a", "b", 3), 3)
        self.assert_told([], tells, SIX, ["a", "b"], ("a", "b", 3), 3)
        self.assert_told([("a", "b", 3)], tells, SIX, ["a", "b"], ("a", "b", 2), 2)
        # On an odd way they go by one another.
        self.assert_told([("a", "b", 3)], tells, FIVE, ["a", "b"], ("a", "b", 2), 2)
        self.assert_told([("a", "b", 2)], tells, FIVE, ["a", "b"], ("a", "b", 3), 2)
        self.assert_told([("a", "b", 3)], heard_of, FIVE, ["a", "b"], ("a", "b", 2), 3)
        half = END // 2
        self.assert_told([("a", "b", half - 1), ("a", "b", half + 1)], heard_of, FAR, ["a", "b"], ("a", "b", half), half)

    def test_a_beat_at_which_a_place_does_not_hear(self):
        for beat in [0, 1, 2, 4, 5, 6, 7, END, 10 ** 39]:
            self.assert_told([], heard_of, FIVE, ["a"], ("a", "b", 3), beat)
            self.assert_told([], tells, FIVE, ["a"], ("a", "b", 3), beat)
        # Its neighbours hear at 2 and 4, but the place itself, which told one of them, does not at 5.
        self.assert_told((None, 3), reaches, FIVE, ["a"], ("a", "b", 3))

    def test_beat_0(self):
        self.assert_told([], heard_of, THREE, ["a"], A, 0)
        self.assert_told([B, C], tells, THREE, ["a"], A, 0)
        self.assert_told([B, C], tells, THREE, ["a", "b", "c"], A, 0)
        self.assert_told([], tells, THREE, ["a"], B, 0)
        self.assert_told([], tells, (["a"], []), ["a"], A, 0)
        self.assert_told([("a", "b", 1)], tells, FIVE, ["a", "b"], A, 0)
        self.assert_told([("a", "b", END - 1)], tells, FAR, ["b"], B, 0)

    def test_of_several_and_to_several(self):
        folk = ["a", "b", "c", "d", "e"]
        web = (folk, [("a", "b", 1), ("a", "c", 1), ("b", "d", 1), ("c", "d", 1), ("d", "e", 2)])
        self.assert_told([B, C], heard_of, web, ["a"], D, 2)
        self.assert_told([("d", "e", 1)], tells, web, ["a"], D, 2)
        self.assert_told([B, C], tells, web, ["e"], D, 2)

    def test_one_hears_at_an_even_and_at_an_odd_beat(self):
        self.assert_told([A], heard_of, THREE, ["a"], B, 1)
        self.assert_told([C], tells, THREE, ["a"], B, 1)
        self.assert_told([C], heard_of, THREE, ["a"], B, 2)
        self.assert_told([A], tells, THREE, ["a"], B, 2)
        self.assert_told([B, C], heard_of, THREE, ["a"], A, 3)
        self.assert_told([], tells, THREE, ["a"], A, 3)


class ToldAt(Case):
    def test_once_or_never(self):
        self.assert_told([0], told_at, PAIR, ["a"], A, B)
        self.assert_told([], told_at, PAIR, ["a"], B, A)
        self.assert_told([0], told_at, PAIR, ["a", "b"], B, A)
        self.assert_told([2], told_at, FIVE, ["a"], ("a", "b", 2), ("a", "b", 3))
        self.assert_told([], told_at, FIVE, ["a"], ("a", "b", 3), ("a", "b", 2))
        self.assert_told([2], told_at, SIX, ["a", "b"], ("a", "b", 4), ("a", "b", 3))

    def test_twice(self):
        web = (["a", "b", "c", "d"], [("a", "b", 1), ("a", "c", 1), ("b", "c", 1), ("c", "d", 2)])
        self.assert_told([1, 2], told_at, web, ["a"], C, ("c", "d", 1))
        self.assert_told([2, 3], told_at, web, ["a"], ("c", "d", 1), D)
        self.assert_told([], told_at, web, ["a"], D, ("c", "d", 1))
        ways = [("a", "b", END), ("b", "c", 1), ("b", "d", 1), ("b", "e", 1), ("c", "d", 1)]
        self.assert_told([END, END + 3], told_at, (["a", "b", "c", "d", "e"], ways), ["a"], B, ("e", "e", 0))

    def test_the_list_rises_where_the_odd_one_is_less(self):
        folk = ["a", "b", "c", "d"]
        web = (folk, [("a", "b", 1), ("a", "c", 3), ("b", "c", 1), ("b", "d", 1)])
        self.assert_told((4, 1), reaches, web, ["a"], B)
        self.assert_told([1, 4], hearings, web, ["a"], B)
        self.assert_told([1, 4], told_at, web, ["a"], B, D)

    def test_far(self):
        folk = ["a", "b", "c", "d"]
        web = (folk, [("a", "b", END), ("b", "c", END), ("b", "d", END), ("c", "d", END - 1)])
        near = ("b", "c", 1)
        self.assert_told([END], told_at, web, ["a"], B, near)
        self.assert_told([4 * END - 2], told_at, web, ["a"], near, B)
        self.assert_told([4 * END - 1], told_at, web, ["a"], B, ("a", "b", END - 1))
        self.assert_told([END + 1], told_at, web, ["a"], near, ("b", "c", 2))

    def test_no_neighbours(self):
        for place, other in [(A, A), (A, ("a", "b", 2)), (("a", "b", 1), ("a", "b", 3)), (A, B), (("a", "b", 4), A),
                             (("a", "b", 2), ("a", "b", 2))]:
            for starters in [["a"], ["b"], ["a", "b"]]:
                with self.assertRaises(NoNeighbour) as caught:
                    unchanged(self, told_at, FIVE, starters, place, other)
                self.assertIs(caught.exception.__class__, NoNeighbour)
        with self.assertRaises(NoNeighbour):
            told_at(FAR, ["a"], A, C)
        with self.assertRaises(NoNeighbour):
            told_at(FAR, ["a"], ("c", "d", 1), ("a", "b", 1))

    def test_a_place_behind_the_other_is_refused_ahead_of_no_neighbours(self):
        for place, other in [(C, A), (A, C), (A, ("a", "b", 5)), (("b", "a", 1), A), (None, None)]:
            with self.assertRaises(NoPlace):
                told_at(FIVE, ["a"], place, other)
