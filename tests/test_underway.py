"""Tellings under way that perhaps nobody began, and when they come again [4, 26, 27]."""

import random
from unittest.mock import ANY

from elsetold.beats import beat_by_beat
from elsetold.errors import NoTellings, NoWeb, TooMany
from elsetold.underway import next_tellings, round_of
from tests.support import (END, NO_PLACES, NO_WEBS, ODD_THINGS, WEB, AskingCase, beside, folk_of, listed, picture,
                           some_starters, some_webs, tupled)

A, B, C = [(name, name, 0) for name in "abc"]
PAIR = (["a", "b"], [("a", "b", 1)])
ROW = (["a", "b"], [("a", "b", 3)])
ONE, TWO = ("a", "b", 1), ("a", "b", 2)
THREE = (["a", "b", "c"], [("a", "b", 1), ("a", "c", 1), ("b", "c", 1)])
OVER = (["a", "b", "c"], [("a", "b", 399), ("b", "c", 2)])
ANN, BOB, CAT, DAN, EVE = [(name, name, 0) for name in WEB[0]]


def slow_next(near, said):
    """The tellings of the next beat, by the words of point 8."""
    told_by = {place: {one for one, other in said if other == place} for place in near}
    return sorted([(place, other) for place in near if told_by[place] for other in near[place] - told_by[place]])


def slow_round(near, said, most=5000):
    """The first and the length, by all beats' tellings; None where they are more than that together."""
    row = [sorted(said)]
    while len(row) <= most + 1:
        if row[-1] in row[:-1]:
            first = row.index(row[-1])
            return first, len(row) - 1 - first
        row.append(slow_next(near, row[-1]))
    return None


def all_tellings(web):
    """All tellings that there can be."""
    return sorted([(place, other) for place, near in beside(web).items() for other in near])


def some_tellings(chance, web):
    """Some of all tellings, in some order."""
    found = all_tellings(web)
    return chance.sample(found, chance.randint(0, len(found)))


def rounds(*many):
    """A web of rounds of three folk each, of so many beats, and the telling that goes along in each."""
    folk, ways, said = folk_of(3 * len(many)), [], []
    for at, beats in enumerate(many):
        one, other, third = folk[3 * at:3 * at + 3]
        ways.extend([(one, other, 1), (one, third, 1), (other, third, beats - 2)])
        said.append(((one, one, 0), (other, other, 0)))
    return (folk, sorted(ways)), said


def with_a_row(web, said, beats):
    """The web with a way of so many beats by itself, and a telling that goes along it to its end."""
    folk, ways = web
    return ([*folk, "x", "y"], [*ways, ("x", "y", beats)]), [*said, (("x", "x", 0), ("x", "y", 1))]


class Next(AskingCase):
    def test_along_a_way(self):
        self.assert_told([(ONE, TWO)], next_tellings, ROW, [(A, ONE)])
        self.assert_told([(TWO, B)], next_tellings, ROW, [(ONE, TWO)])
        self.assert_told([], next_tellings, ROW, [(TWO, B)])
        self.assert_told([(ONE, A)], next_tellings, ROW, [(TWO, ONE)])

    def test_both_tell_one_another(self):
        self.assert_told([(ONE, A), (TWO, B)], next_tellings, ROW, [(ONE, TWO), (TWO, ONE)])
        self.assert_told([], next_tellings, PAIR, [(A, B), (B, A)])

    def test_who_is_told_by_all_tells_nobody(self):
        self.assert_told([], next_tellings, ROW, [(A, ONE), (TWO, ONE)])

    def test_all_neighbours_but_those_who_told(self):
        star = (["a", "b", "c", "d"], [("a", "b", 1), ("a", "c", 1), ("a", "d", 1)])
        d = ("d", "d", 0)
        self.assert_told([(A, C), (A, d)], next_tellings, star, [(B, A)])
        self.assert_told([(A, C)], next_tellings, star, [(B, A), (d, A)])
        self.assert_told([], next_tellings, star, [(B, A), (C, A), (d, A)])
        self.assert_told([], next_tellings, star, [(A, B), (A, C)])

    def test_nobody_is_told(self):
        self.assert_told([], next_tellings, ROW, [])
        self.assert_told([], next_tellings, ROW, ())
        self.assert_told([], next_tellings, (["a"], []), [])

    def test_all_that_there_can_be(self):
        for web in [ROW, PAIR, THREE, WEB]:
            self.assert_told([], next_tellings, web, all_tellings(web))
        long = (["a", "b", "c"], [("a", "b", 399), ("b", "c", 1)])
        self.assertEqual(len(all_tellings(long)), 800)
        self.assert_told([], next_tellings, long, all_tellings(long))
        self.assertEqual(len(next_tellings(long, all_tellings(long)[::2])),
                         len(slow_next(beside(long), all_tellings(long)[::2])))

    def test_what_nobody_began(self):
        # One telling that goes round alone.
        self.assert_told([(B, C)], next_tellings, THREE, [(A, B)])
        self.assert_told([(C, A)], next_tellings, THREE, [(B, C)])
        self.assert_told([(A, B)], next_tellings, THREE, [(C, A)])

    def test_in_whatever_order_and_kind(self):
        chance = random.Random(801)
        for web in some_webs(803, 20, 6, 5):
            said = some_tellings(chance, web)
            told = next_tellings(web, said)
            self.assertEqual(picture(told), picture(sorted(told)))
            for other in [said[::-1], sorted(said), listed(said), tupled(said)]:
                self.assert_told(told, next_tellings, listed(web), other)
            self.assertEqual(next_tellings(said=said, web=web), told)

    def test_many_webs(self):
        chance = random.Random(805)
        for web in some_webs(807, 150, 8, 6):
            said = some_tellings(chance, web)
            self.assert_told(slow_next(beside(web), said), next_tellings, web, said)

    def test_a_nights_beats(self):
        for at, web in enumerate(some_webs(809, 60, 8, 6)):
            night = beat_by_beat(web, some_starters(at, web[0])) + [[]]
            for said, later in zip(night, night[1:]):
                self.assert_told(later, next_tellings, web, said)

    def test_the_askers_own(self):
        web, said = listed(THREE), listed([(A, B), (A, C)])
        told = next_tellings(web, said)
        said[0][1][0] = "z"
        said.clear()
        self.assertEqual(told, [(B, C), (C, B)])
        told.clear()
        self.assertEqual(web, listed(THREE))
        self.assertEqual(next_tellings(web, [(A, B), (A, C)]), [(B, C), (C, B)])


class RoundOf(AskingCase):
    def test_all_quiet(self):
        self.assert_told((0, 1), round_of, ROW, [])
        self.assert_told((0, 1), round_of, (["a"], []), ())
        self.assert_told((1, 1), round_of, PAIR, [(A, B)])
        self.assert_told((3, 1), round_of, ROW, [(A, ONE)])
        self.assert_told((1, 1), round_of, ROW, all_tellings(ROW))

    def test_round_for_ever(self):
        self.assert_told((0, 3), round_of, THREE, [(A, B)])
        self.assert_told((0, 1), round_of, THREE, [(A, B), (B, C), (C, A)])
        for beats in [4, 5, 17, 400]:
            self.assert_told((0, beats), round_of, *rounds(beats))
        self.assert_told((0, 12), round_of, *rounds(4, 6))

    def test_tellings_that_come_again_behind_some_that_do_not(self):
        self.assert_told((7, 4), round_of, *with_a_row(*rounds(4), 7))
        self.assert_told((388, 60), round_of, *with_a_row(*rounds(3, 4, 5), 388))
        for at in (3, 9):
            tail = (["a", "b", "c", "d"], [("a", "b", 1), ("a", "c", 1), ("b", "c", 1), ("c", "d", at)])
            for said in [[(A, B)], [(("c", "d", at - 1), ("d", "d", 0)), (B, A)]]:
                self.assert_told(slow_round(beside(tail), said), round_of, tail, said)

    def test_just_five_thousand_and_one_more(self):
        # Rounds that come again together behind 4680 beats, beside a row that is quiet behind so many.
        web, said = rounds(8, 9, 5, 13)
        self.assert_told((0, 4680), round_of, web, said)
        self.assert_told((320, 4680), round_of, *with_a_row(web, said, 320))
        for beats in [321, 322, 365]:
            error = self.assert_refused(TooMany, round_of, *with_a_row(web, said, beats))
            self.assertEqual(error.many, 5000)

    def test_a_length_of_more_than_five_thousand(self):
        for many in [(8, 9, 5, 14, 11), (71, 73), (4, 9, 5, 7, 11, 13)]:
            web, said = rounds(*many)
            self.assertEqual(self.assert_refused(TooMany, round_of, web, said).many, 5000)
            self.assertEqual(len(next_tellings(web, said)), len(many))
        self.assert_told((0, 4970), round_of, *rounds(70, 71))

    def test_from_tellings_that_somebody_began_all_is_quiet_at_last(self):
        for at, web in enumerate(some_webs(811, 80, 8, 6)):
            night = beat_by_beat(web, some_starters(at, web[0])) + [[]]
            for beat, said in enumerate(night):
                self.assert_told((len(night) - 1 - beat, 1), round_of, web, said)

    def test_many_webs(self):
        chance, found = random.Random(813), []
        for web in some_webs(815, 120, 6, 4):
            said = some_tellings(chance, web)
            told = slow_round(beside(web), said, 600)
            if told:
                self.assert_told(told, round_of, web, said)
                found.append(told)
        self.assertGreater(len([1 for first, length in found if length > 1]), 20)
        self.assertGreater(len([1 for first, length in found if length > 1 and first > 0]), 10)

    def test_in_whatever_order_and_kind(self):
        web, said = with_a_row(*rounds(4, 6), 9)
        for other in [said[::-1], listed(said), tupled(said)]:
            self.assert_told((9, 12), round_of, listed(web), other)
        self.assertEqual(round_of(said=said, web=tupled(web)), (9, 12))

    def test_a_beat_later_all_is_a_beat_less_or_the_same(self):
        chance = random.Random(817)
        for web in some_webs(819, 40, 6, 4):
            said = some_tellings(chance, web)
            if slow_round(beside(web), said, 300):
                first, length = round_of(web, said)
                self.assertEqual(round_of(web, next_tellings(web, said)), (max(first - 1, 0), length))


class Refusals(AskingCase):
    NOT = [
        None, "ab", 1, True, {}, {(ANN, BOB)}, {ANN: BOB}, [ANN], [(ANN,)], [(ANN, BOB, CAT)], [(ANN, ANN)],
        [(ANN, DAN)], [(ANN, EVE)], [(ANN, ("ann", "cat", 2))], [(ANN, BOB), (ANN, BOB)],
        [(ANN, BOB), (BOB, ANN), [list(ANN), list(BOB)]], [(ANN, BOB), None], ["ann", "bob"], [("ann", "bob")],
        [(ANN, "bob")], [{ANN: 1, BOB: 2}], ANY, [ANY], [(ANN, ANY)], [(ANY, ANN)], [(ANN, (ANY, ANY, 0))],
    ]

    def test_no_tellings(self):
        odd = [thing for thing in ODD_THINGS if not (isinstance(thing, (list, tuple)) and len(thing) == 0)]
        for call in [next_tellings, round_of]:
            for said in self.NOT + odd:
                self.assert_refused(NoTellings, call, WEB, said)
            for thing in odd:
                for said in [[thing], [(ANN, BOB), thing], [(thing, BOB)], [(ANN, thing)], (ANN, thing)]:
                    self.assert_refused(NoTellings, call, WEB, said)
            for place in NO_PLACES:
                self.assert_refused(NoTellings, call, WEB, [(place, ANN)])
                self.assert_refused(NoTellings, call, WEB, [(ANN, place)])

    def test_a_web_that_is_not_near(self):
        for call in [next_tellings, round_of]:
            for said in [[], [(A, ONE)], [(ONE, TWO), (TWO, ONE)]]:
                self.assertEqual(self.assert_refused(TooMany, call, OVER, said).many, 401)
                far = (["a", "b"], [("a", "b", END)])
                self.assertEqual(self.assert_refused(TooMany, call, far, said).many, END)

    def test_in_the_order_of_the_interface(self):
        for call in [next_tellings, round_of]:
            for said in self.NOT:
                self.assert_refused(NoTellings, call, OVER, said)
            self.assert_refused(NoTellings, call, OVER, [(A, ONE), (A, ONE)])
            for web in NO_WEBS:
                self.assert_refused(NoWeb, call, web, None)
                self.assert_refused(NoWeb, call, web, [])
