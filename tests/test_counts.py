"""How many tellings, how many hear, the loudest and the last beat, and where the cry dies [4, 13, 14]."""

from itertools import combinations

from elsetold.counts import dying, how_many_hear, last_beat, loudest, tellings, tellings_by
from tests.support import (AskingCase, SlowTold, big_web, far_level, far_webs, least_far_walks, places_of,
                           some_starters, some_webs, stretched, stretched_place, three_folk_lots)

END = 10 ** 12
A, B, C, D = [(name, name, 0) for name in "abcd"]
ALONE = (["a"], [])
PAIR = (["a", "b"], [("a", "b", 1)])
FIVE = (["a", "b"], [("a", "b", 5)])
SIX = (["a", "b"], [("a", "b", 6)])
FAR = (["a", "b"], [("a", "b", END)])
THREE = (["a", "b", "c"], [("a", "b", 1), ("a", "c", 1), ("b", "c", 1)])
# Nobody begins in the part of c and d; e is alone.
PARTS = (["a", "b", "c", "d", "e"], [("a", "b", 5), ("c", "d", 7)])


def spots_at(web, least, beat):
    """How many spots of a web, however long its ways, are reached by the least walk of their kind at the beat."""
    many = 0
    for one, other, beats in web[1]:
        numbers = set()
        for kind in (0, 1):
            if (one, kind) in least:
                numbers |= {beat - least[(one, kind)], beats - (beat - least[(other, (kind + beats) % 2)])}
        spots = [(one, other, number) for number in numbers if 1 <= number < beats]
        many += len([spot for spot in spots if far_level(web, least, spot, beat % 2) == beat])
    return many


def hearers_far(web, least, beat):
    """How many places of such a web hear at the beat."""
    folk = [name for (name, _), reached in least.items() if reached == beat > 0]
    return len(folk) + spots_at(web, least, beat)


def beats_near(least, web):
    """Beats around those at which something begins or ends on some way."""
    middles = [least[(one, kind)] + (least[(other, (kind + beats) % 2)] + beats - least[(one, kind)]) // 2
               for one, other, beats in web[1] for kind in (0, 1) if (one, kind) in least]
    marks = sorted(set(list(least.values()) + middles))
    return sorted({max(0, mark + more) for mark in marks for more in (-1, 0, 1, 2)})


class Case(AskingCase):
    def assert_as_by_the_night(self, web, starters):
        slow = SlowTold(web, starters)
        self.assertEqual(tellings(web, starters), sum([len(each) for each in slow.night]))
        for beat in range(len(slow.night) + 3):
            self.assertEqual(tellings_by(web, starters, beat), sum([len(each) for each in slow.night[:beat + 1]]))
            self.assertEqual(how_many_hear(web, starters, beat), len(slow.hearers(beat)))
        self.assertEqual(last_beat(web, starters), len(slow.night))
        self.assertEqual(loudest(web, starters), slow.loudest())
        self.assertEqual(dying(web, starters), slow.dying())


class Night(Case):
    def test_all_webs_of_three_folk(self):
        for web, lots in three_folk_lots([0, 1, 2, 3, 4]):
            for lot in lots:
                self.assert_as_by_the_night(web, list(lot))

    def test_one_way_of_any_length(self):
        for beats in range(1, 16):
            for lot in [["a"], ["b"], ["b", "a"]]:
                self.assert_as_by_the_night((["a", "b"], [("a", "b", beats)]), lot)

    def test_many_webs(self):
        for at, web in enumerate(some_webs(201, 150, 8, 7)):
            self.assert_as_by_the_night(web, some_starters(at, web[0]))

    def test_webs_with_much_longer_ways_beside_short_ones(self):
        for at, (folk, ways) in enumerate(some_webs(203, 60, 6, 5)):
            web = (folk, [(one, other, beats * 11 if number % 3 == 0 else beats)
                          for number, (one, other, beats) in enumerate(ways)])
            self.assert_as_by_the_night(web, some_starters(at, folk))

    def test_sixty_folk_and_a_hundred_and_fifty_ways(self):
        web = big_web()
        for starters in [["aa"], ["ae", "fc"], web[0]]:
            self.assert_as_by_the_night(web, starters)

    def test_stretched_webs(self):
        by = 111111111111
        webs = some_webs(207, 60, 8, 9)
        for at, web in enumerate(webs):
            starters = some_starters(at, web[0])
            slow = SlowTold(web, starters)
            far = stretched(web, by)
            self.assertEqual(tellings(far, starters), tellings(web, starters) * by)
            self.assertEqual(last_beat(far, starters), len(slow.night) * by)
            self.assertEqual(dying(far, starters),
                             [(beat * by, stretched_place(place, by)) for beat, place in slow.dying()])
            for beat in range(len(slow.night) + 2):
                # As many tell at each of the beats that one beat was stretched to.
                many = sum([len(each) for each in slow.night[:beat]])
                self.assertEqual(tellings_by(far, starters, beat * by - 1) if beat else 0, many * by)
                now = len(slow.night[beat]) if beat < len(slow.night) else 0
                self.assertEqual(tellings_by(far, starters, beat * by), many * by + now)
                self.assertEqual(tellings_by(far, starters, beat * by + 76), many * by + now * 77)
                self.assertEqual(how_many_hear(far, starters, beat * by), len(slow.hearers(beat)))
                self.assertEqual(how_many_hear(far, starters, beat * by + 1), now)

    def test_long_and_short_ways_side_by_side(self):
        for at, web in enumerate(far_webs(211, 40)):
            starters = some_starters(at, web[0])
            least = least_far_walks(web, starters)
            wanted = {beat: hearers_far(web, least, beat) for beat in beats_near(least, web)}
            for beat, many in wanted.items():
                self.assertEqual(how_many_hear(web, starters, beat), many)
            most = max(list(wanted.values()))
            first = min([beat for beat, many in wanted.items() if many == most])
            self.assertEqual(loudest(web, starters), (most, first if most else 0))
            self.assert_dies(web, starters, least)

    def assert_dies(self, web, starters, least):
        """A hearing is where the cry dies where all neighbours are reached a beat ahead of it."""
        found = dying(web, starters)
        self.assertEqual(found, sorted(set(found)))
        self.assertEqual(last_beat(web, starters), max([beat for beat, _ in found], default=0))
        near = {place for _, place in found}
        for place in set(places_of(web)) | near:
            for kind in (0, 1):
                beat = far_level(web, least, place, kind)
                if beat:
                    beyond = [far_level(web, least, other, 1 - kind) for other in self.beside(web, place)]
                    self.assertEqual((beat, place) in found, set(beyond) == {beat - 1})

    def beside(self, web, place):
        name, second, number = place
        found = []
        for one, other, beats in web[1]:
            row = {0: (one, one, 0), beats: (other, other, 0)}
            at = [0 if name == one else beats] if name == second and name in (one, other) else []
            if (name, second) == (one, other):
                at = [number]
            for here in at:
                found.extend([row.get(there, (one, other, there)) for there in (here - 1, here + 1) if 0 <= there <= beats])
        return found


class Tellings(Case):
    def test_each_beat_of_each_way_once_or_twice(self):
        self.assert_told(5, tellings, FIVE, ["a"])
        self.assert_told(10, tellings, FIVE, ["a", "b"])
        self.assert_told(6, tellings, SIX, ["a", "b"])
        self.assert_told(6, tellings, THREE, ["a"])
        self.assert_told(6, tellings, THREE, ["a", "b", "c"])
        self.assert_told(END, tellings, FAR, ["b"])
        self.assert_told(2 * END - 2, tellings, (["a", "b"], [("a", "b", END - 1)]), ["b", "a"])

    def test_never_where_nobody_begins(self):
        self.assert_told(5, tellings, PARTS, ["a"])
        self.assert_told(10, tellings, PARTS, ["b", "a"])
        self.assert_told(7, tellings, PARTS, ["c", "e"])
        self.assert_told(12, tellings, PARTS, ["c", "b"])
        self.assert_told(0, tellings, PARTS, ["e"])
        self.assert_told(0, tellings, ALONE, ["a"])

    def test_a_greatest_web(self):
        folk = [one + other for one in "abcdef" for other in "abcdefghij"]
        ways = [(one, other, END) for one, other in combinations(folk, 2)][:149] + [("ad", "ag", END - 1)]
        web = (folk, sorted({(one, other): (one, other, beats) for one, other, beats in ways}.values()))
        whole = sum([way[2] for way in web[1]])
        self.assert_told(2 * whole, tellings, web, ["bb"])
        self.assert_told(2 * whole, tellings_by, web, ["bb"], 10 ** 39)


class TellingsBy(Case):
    def test_beat_for_beat(self):
        for beat, many in enumerate([1, 2, 3, 4, 5, 5, 5]):
            self.assert_told(many, tellings_by, FIVE, ["a"], beat)
        for beat, many in enumerate([2, 4, 6, 8, 10, 10]):
            self.assert_told(many, tellings_by, FIVE, ["a", "b"], beat)
        for beat, many in enumerate([2, 4, 6, 6, 6]):
            self.assert_told(many, tellings_by, SIX, ["a", "b"], beat)
        for beat, many in enumerate([2, 4, 6, 6]):
            self.assert_told(many, tellings_by, THREE, ["a"], beat)

    def test_far(self):
        self.assert_told(1, tellings_by, FAR, ["a"], 0)
        self.assert_told(2, tellings_by, FAR, ["a", "b"], 0)
        self.assert_told(END - 1, tellings_by, FAR, ["a"], END - 2)
        self.assert_told(END, tellings_by, FAR, ["a"], END - 1)
        self.assert_told(END, tellings_by, FAR, ["a"], END)
        self.assert_told(END, tellings_by, FAR, ["a", "b"], END // 2 - 1)
        self.assert_told(END - 2, tellings_by, FAR, ["a", "b"], END // 2 - 2)

    def test_nobody_tells(self):
        for beat in [0, 1, END, 10 ** 39]:
            self.assert_told(0, tellings_by, ALONE, ["a"], beat)
            self.assert_told(0, tellings_by, PARTS, ["e"], beat)


class HowManyHear(Case):
    def test_beat_for_beat(self):
        for beat, many in enumerate([0, 1, 1, 1, 1, 1, 0, 0]):
            self.assert_told(many, how_many_hear, FIVE, ["a"], beat)
        for beat, many in enumerate([0, 2, 2, 2, 2, 2, 0]):
            self.assert_told(many, how_many_hear, FIVE, ["a", "b"], beat)
        # Both sides of the way meet at its middle, which is one place.
        for beat, many in enumerate([0, 2, 2, 1, 0, 0]):
            self.assert_told(many, how_many_hear, SIX, ["a", "b"], beat)
        for beat, many in enumerate([0, 2, 2, 1, 0]):
            self.assert_told(many, how_many_hear, THREE, ["a"], beat)
        for beat, many in enumerate([0, 3, 0]):
            self.assert_told(many, how_many_hear, THREE, ["a", "b", "c"], beat)

    def test_far(self):
        half = END // 2
        for beat, many in [(0, 0), (1, 2), (half - 1, 2), (half, 1), (half + 1, 0), (END, 0), (10 ** 39, 0)]:
            self.assert_told(many, how_many_hear, FAR, ["a", "b"], beat)
        for beat, many in [(0, 0), (1, 1), (END, 1), (END + 1, 0)]:
            self.assert_told(many, how_many_hear, FAR, ["a"], beat)

    def test_nobody_hears(self):
        for beat in [0, 1, 2, END]:
            self.assert_told(0, how_many_hear, ALONE, ["a"], beat)
            self.assert_told(0, how_many_hear, PARTS, ["e"], beat)


class LastAndLoudest(Case):
    def test_nobody_ever_hears(self):
        for web, starters in [(ALONE, ["a"]), (PARTS, ["e"]), ((["a", "b", "c"], []), ["c", "a"])]:
            self.assert_told(0, last_beat, web, starters)
            self.assert_told((0, 0), loudest, web, starters)
            self.assert_told([], dying, web, starters)

    def test_last_beat(self):
        self.assert_told(1, last_beat, PAIR, ["a"])
        self.assert_told(1, last_beat, PAIR, ["a", "b"])
        self.assert_told(5, last_beat, FIVE, ["a", "b"])
        self.assert_told(3, last_beat, SIX, ["a", "b"])
        self.assert_told(3, last_beat, THREE, ["c"])
        self.assert_told(7, last_beat, PARTS, ["a", "d"])
        self.assert_told(END, last_beat, FAR, ["a"])
        self.assert_told(END // 2, last_beat, FAR, ["a", "b"])

    def test_the_last_one_may_be_a_spot(self):
        web = (["a", "b", "c"], [("a", "b", 2), ("a", "c", 2), ("b", "c", 4)])
        self.assert_told(4, last_beat, web, ["a"])
        self.assert_told([(4, ("b", "c", 2))], dying, web, ["a"])

    def test_the_first_of_several_loudest_beats(self):
        self.assert_told((1, 1), loudest, FIVE, ["a"])
        self.assert_told((2, 1), loudest, SIX, ["a", "b"])
        self.assert_told((2, 1), loudest, THREE, ["a"])
        self.assert_told((3, 1), loudest, THREE, ["a", "b", "c"])
        self.assert_told((2, 1), loudest, FAR, ["a", "b"])

    def test_a_loudest_beat_behind_the_first(self):
        folk = ["a", "b", "c", "d", "e"]
        web = (folk, [("a", "b", END), ("b", "c", 7), ("b", "d", 8), ("b", "e", 9)])
        self.assert_told((3, END + 1), loudest, web, ["a"])
        star = (folk, [("a", "b", 3), ("b", "c", 1), ("b", "d", 1), ("b", "e", 1)])
        self.assert_told((3, 4), loudest, star, ["a"])

    def test_a_beat_at_which_many_hear_but_none_did_along_a_way(self):
        folk = ["a", "b", "c", "d", "e"]
        web = (folk, [("a", "b", 1), ("b", "c", 1), ("b", "d", 1), ("c", "e", 1), ("d", "e", 1)])
        self.assert_told((2, 2), loudest, web, ["a"])
        self.assert_told((2, 1), loudest, web, ["c"])


class Dying(Case):
    def test_at_an_end(self):
        self.assert_told([(5, B)], dying, FIVE, ["a"])
        self.assert_told([(5, A), (5, B)], dying, FIVE, ["b", "a"])
        self.assert_told([(1, A), (1, B)], dying, PAIR, ["b", "a"])
        self.assert_told([(END, A)], dying, FAR, ["b"])

    def test_told_by_all_neighbours_at_once(self):
        self.assert_told([(3, A)], dying, THREE, ["a"])
        self.assert_told([(1, A), (1, B), (1, C)], dying, THREE, ["a", "b", "c"])
        square = (["a", "b", "c", "d"], [("a", "b", 1), ("a", "d", 1), ("b", "c", 1), ("c", "d", 1)])
        self.assert_told([(2, C)], dying, square, ["a"])
        self.assert_told([(1, B), (1, D)], dying, square, ["a", "c"])

    def test_by_all_but_one_it_does_not_die(self):
        folk = ["a", "b", "c", "d", "e"]
        web = (folk, [("a", "b", 1), ("a", "d", 1), ("b", "c", 1), ("c", "d", 1), ("c", "e", 1)])
        self.assert_told([(3, ("e", "e", 0))], dying, web, ["a"])

    def test_where_both_sides_of_a_way_meet(self):
        self.assert_told([(3, ("a", "b", 3))], dying, SIX, ["a", "b"])
        self.assert_told([(1, ("a", "b", 1))], dying, (["a", "b"], [("a", "b", 2)]), ["a", "b"])
        self.assert_told([(END // 2, ("a", "b", END // 2))], dying, FAR, ["a", "b"])
        web = (["a", "b", "c"], [("a", "b", END), ("a", "c", END - 2), ("b", "c", 6)])
        self.assert_told([(END + 2, ("b", "c", 2))], dying, web, ["a"])

    def test_at_an_even_and_at_an_odd_beat_in_one_place(self):
        web = (["a", "b", "c", "d"], [("a", "b", 1), ("a", "c", 1), ("b", "c", 1), ("c", "d", 3)])
        self.assert_told([(3, A), (4, D), (5, D)], dying, web, ["a"])

    def test_in_each_part_by_itself(self):
        self.assert_told([(5, B), (7, C)], dying, PARTS, ["a", "d"])
        self.assert_told([(5, A), (5, B), (7, D)], dying, PARTS, ["a", "b", "c", "e"])
