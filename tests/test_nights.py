"""A Night: cries that begin at its beats, ways more and less, deeds undone, twins [2, 3, 4, 28, 29]."""

import copy
import random
import unittest
from unittest.mock import ANY

from elsetold import errors
from elsetold.counts import last_beat, tellings, tellings_by
from elsetold.errors import (Busy, NoBeat, NoCry, NoFolk, NoPlace, NoStarters, Nothing, NoWay, NoWeb, Taken, TooMany,
                             Twice)
from elsetold.nights import MOST_ON, Night
from elsetold.reaches import hearings
from elsetold.ways import with_way, without_way
from tests.support import (END, NO_PLACES, NO_STARTERS, NO_WEBS, ODD_THINGS, WEB, beside, big_web, far_webs, listed,
                           picture, places_of, slow_night, some_starters, some_webs, stretched, tupled, unchanged)

ANN, BOB, CAT, DAN, EVE = [(name, name, 0) for name in WEB[0]]
ROW = (["a", "b", "c"], [("a", "b", 2), ("b", "c", 3)])
A, B, C = [(name, name, 0) for name in "abc"]
FAR = (["a", "b", "c"], [("a", "b", END), ("b", "c", END - 1)])
NO_NAMES = [None, "", "A", "ann ", "abcdefghi", "a1", b"a", 1, True, ["a"], ("a",), {"a": 1}, {"a"}, "\n", ANY, "a-b"]
NO_ONS = [-1, -MOST_ON, MOST_ON + 1, 10 ** 39, True, False, None, "1", b"1", [1], (), {}, ANY]


def all_told(night, places):
    """All that a Night tells."""
    return {
        "web": night.web_now(), "beat": night.beat_now(), "cries": night.cries(), "quiet": night.quiet_cries(),
        "history": night.history(), "len": len(night), "heard": [night.cries_heard(place) for place in places],
        "told": [night.told(cry) for cry in night.cries()], "last": [night.last_of(cry) for cry in night.cries()],
    }


class SlowNight:
    """A Night of near webs, by each cry's own night beat by beat."""

    def __init__(self, web):
        self.web, self.beat, self.begun, self.deeds, self.past = web, 0, [], [], []

    def do(self, deed):
        """Do a deed that is known not to be refused."""
        self.past.append((self.web, self.beat, self.begun))
        self.deeds.append(deed)
        name, *handed = deed
        if name == "begin":
            cry, starters = handed
            self.begun = self.begun + [(cry, self.beat, self.web, slow_night(self.web, starters))]
        elif name == "go_on":
            self.beat += handed[0]
        elif name == "add":
            one, other, beats = handed
            self.web = self.web[0], sorted(self.web[1] + [(min(one, other), max(one, other), beats)])
        else:
            self.web = self.web[0], [way for way in self.web[1] if set(way[:2]) != set(handed)]

    def back(self):
        self.web, self.beat, self.begun = self.past.pop()
        self.deeds.pop()

    def quiet(self):
        return [cry for cry, start, _, night in self.begun if self.beat >= start + len(night)]

    def heard(self, cry, place):
        _, start, _, night = [each for each in self.begun if each[0] == cry][0]
        beats = [start + at + 1 for at, said in enumerate(night) if place in [other for _, other in said]]
        return [beat for beat in beats if beat <= self.beat]

    def all_told(self, places):
        return {
            "web": self.web, "beat": self.beat, "cries": [each[0] for each in self.begun], "quiet": self.quiet(),
            "history": self.deeds, "len": len(self.deeds),
            "heard": [[cry for cry, _, _, _ in self.begun if self.beat in self.heard(cry, place)] for place in places],
            "told": [sum([len(said) for said in night[:self.beat - start + 1]]) for _, start, _, night in self.begun],
            "last": [start + len(night) for _, start, _, night in self.begun],
        }


class Case(unittest.TestCase):
    def assert_refused(self, error, night, name, *handed):
        """The deed or question is refused by this class, and leaves no trace."""
        places = [(each, each, 0) for each in night.web_now()[0]]
        before, twin = picture(all_told(night, places)), night.twin()
        with self.assertRaises(error) as caught:
            unchanged(self, getattr(night, name), *handed)
        self.assertIs(caught.exception.__class__, error)
        self.assertEqual(picture(all_told(night, places)), before)
        self.assertTrue(night == twin)
        return caught.exception

    def do(self, night, *deeds):
        """Do the deeds, none of which tells anything."""
        for name, *handed in deeds:
            self.assertIsNone(unchanged(self, getattr(night, name), *handed))
        return night


class Deeds(Case):
    def test_a_new_night(self):
        night = Night(ROW)
        self.assertEqual(picture(night.web_now()), picture((["a", "b", "c"], [("a", "b", 2), ("b", "c", 3)])))
        self.assertEqual([night.beat_now(), night.cries(), night.quiet_cries(), night.history(), len(night)],
                         [0, [], [], [], 0])
        self.assertEqual(night.cries_heard(A), [])

    def test_a_cry_goes(self):
        night = self.do(Night(ROW), ("begin", "hey", ["a"]))
        self.assertEqual([night.told("hey"), night.last_of("hey"), night.quiet_cries()], [1, 5, []])
        self.do(night, ("go_on", 2))
        self.assertEqual([night.told("hey"), night.cries_heard(B), night.heard_at("hey", B)], [3, ["hey"], [2]])
        self.assertEqual([night.cries_heard(C), night.heard_at("hey", C)], [[], []])
        self.do(night, ("go_on", 2))
        self.assertEqual([night.told("hey"), night.quiet_cries(), night.beat_now()], [5, [], 4])
        self.do(night, ("go_on", 1))
        self.assertEqual([night.told("hey"), night.quiet_cries(), night.cries_heard(C)], [5, ["hey"], ["hey"]])
        self.do(night, ("go_on", 1))
        self.assertEqual([night.cries_heard(C), night.heard_at("hey", C), night.last_of("hey")], [[], [5], 5])

    def test_a_cry_begun_later(self):
        night = self.do(Night(ROW), ("go_on", 7), ("begin", "hey", ["b"]), ("go_on", 3))
        self.assertEqual([night.heard_at("hey", A), night.heard_at("hey", C), night.last_of("hey")], [[9], [10], 10])
        self.assertEqual([night.told("hey"), night.quiet_cries(), night.cries_heard(C)], [5, ["hey"], ["hey"]])

    def test_two_cries_at_one_time_go_each_by_itself(self):
        night = self.do(Night(ROW), ("begin", "zoe", ["a"]), ("begin", "amy", ["c"]), ("go_on", 3))
        self.assertEqual(night.cries(), ["zoe", "amy"])
        self.assertEqual([night.cries_heard(("b", "c", 1)), night.cries_heard(B)], [["zoe"], ["amy"]])
        self.do(night, ("begin", "ned", ["a"]), ("go_on", 2))
        self.assertEqual([night.cries_heard(A), night.cries_heard(C), night.cries_heard(B)],
                         [["amy"], ["zoe"], ["ned"]])
        self.assertEqual(night.quiet_cries(), ["zoe", "amy"])
        self.assertEqual([night.told(cry) for cry in night.cries()], [5, 5, 3])
        self.do(night, ("go_on", 10))
        self.assertEqual(night.quiet_cries(), ["zoe", "amy", "ned"])

    def test_two_that_are_heard_at_once_are_told_in_the_order_of_beginning(self):
        night = self.do(Night(ROW), ("begin", "zoe", ["c"]), ("go_on", 1), ("begin", "amy", ["a"]), ("go_on", 2))
        self.assertEqual(night.cries_heard(B), ["zoe", "amy"])

    def test_nobody_ever_hears(self):
        night = self.do(Night((["a", "b"], [])), ("go_on", 4), ("begin", "hey", ["b"]))
        self.assertEqual([night.last_of("hey"), night.told("hey"), night.quiet_cries()], [4, 0, ["hey"]])
        self.do(night, ("add", "b", "a", 3), ("go_on", 10 ** 30))
        self.assertEqual([night.last_of("hey"), night.told("hey"), night.heard_at("hey", A)], [4, 0, []])

    def test_a_beat_of_nothing(self):
        night = self.do(Night(ROW), ("go_on", 0), ("go_on", 0))
        self.assertEqual([night.beat_now(), len(night), night.history()], [0, 2, [("go_on", 0), ("go_on", 0)]])

    def test_ways_more_and_less(self):
        night = self.do(Night(ROW), ("add", "c", "a", 1), ("lose", "b", "a"))
        self.assertEqual(night.web_now(), (["a", "b", "c"], [("a", "c", 1), ("b", "c", 3)]))
        self.assertEqual(night.history(), [("add", "c", "a", 1), ("lose", "b", "a")])
        self.do(night, ("begin", "hey", ["a"]))
        self.assertEqual(night.last_of("hey"), 4)

    def test_the_web_in_which_a_cry_began_and_the_web_now(self):
        night = self.do(Night(ROW), ("begin", "hey", ["a"]), ("go_on", 5), ("lose", "b", "c"), ("add", "b", "c", 9),
                        ("begin", "ho", ["b"]))
        self.assertEqual(night.heard_at("hey", ("b", "c", 2)), [4])
        self.assert_refused(NoPlace, night, "heard_at", "hey", ("b", "c", 3))
        self.assertEqual([night.heard_at("ho", ("b", "c", 3)), night.last_of("ho"), night.last_of("hey")], [[], 14, 5])
        self.assertEqual([night.cries_heard(C), night.cries_heard(("b", "c", 3))], [["hey"], []])
        self.do(night, ("go_on", 3))
        self.assertEqual([night.heard_at("ho", ("b", "c", 3)), night.cries_heard(("b", "c", 3))], [[8], ["ho"]])
        self.assertEqual([night.told("hey"), night.told("ho")], [5, 1 + 1 + 1 + 1 + 2])

    def test_a_spot_that_both_webs_have_hears_by_the_cry_s_own(self):
        night = self.do(Night((["a", "b", "c"], [("a", "b", 4), ("b", "c", 9)])), ("begin", "hey", ["a", "b"]),
                        ("go_on", 9), ("lose", "a", "b"), ("add", "a", "b", 9))
        # At beat 9 only c hears; the spots of the new way are no such places of the old one from the fourth on.
        self.assertEqual([night.cries_heard(C), night.cries_heard(("a", "b", 2)), night.cries_heard(("a", "b", 5))],
                         [["hey"], [], []])
        short = self.do(Night((["a", "b"], [("a", "b", 4)])), ("begin", "hey", ["a", "b"]), ("go_on", 2),
                        ("lose", "a", "b"))
        self.assert_refused(NoPlace, short, "cries_heard", ("a", "b", 2))
        self.assertEqual(short.heard_at("hey", ("a", "b", 2)), [2])
        for beats, heard in [(3, ["hey"]), (9, ["hey"]), (END, ["hey"])]:
            also = self.do(short.twin(), ("add", "a", "b", beats))
            self.assertEqual(also.cries_heard(("a", "b", 2)), heard)
            self.assertEqual(also.cries_heard(("a", "b", 1)), [])
        also = self.do(short.twin(), ("add", "b", "a", 2))
        self.assert_refused(NoPlace, also, "cries_heard", ("a", "b", 2))

    def test_at_once_and_in_pieces(self):
        for web in [ROW, FAR, WEB]:
            name = web[0][0]
            one, two = [self.do(Night(web), ("begin", "hey", [name])) for _ in range(2)]
            self.do(one, ("go_on", 7), ("go_on", 0), ("go_on", END), ("go_on", 1))
            self.do(two, ("go_on", END + 8))
            self.assertTrue(one == two)
            self.assertEqual(one.heard_at("hey", (name, name, 0)), two.heard_at("hey", (name, name, 0)))
            self.assertEqual([one.told("hey"), one.quiet_cries()], [two.told("hey"), two.quiet_cries()])

    def test_far_behind_all_hearings(self):
        night = self.do(Night(FAR), ("begin", "hey", ["a"]), *[("go_on", 10 ** 30)] * 200)
        self.assertEqual([night.beat_now(), night.told("hey")], [200 * 10 ** 30, 2 * END - 1])
        self.assertEqual([night.heard_at("hey", C), night.cries_heard(C)], [[2 * END - 1], []])
        self.do(night, ("begin", "ho", ["c"]), ("go_on", END))
        self.assertEqual([night.heard_at("ho", B), night.last_of("ho")],
                         [[200 * 10 ** 30 + END - 1], 200 * 10 ** 30 + 2 * END - 1])

    def test_arguments_by_names_and_in_either_kind(self):
        night = Night(web=tupled(WEB))
        night.begin(starters=("eve", "ann"), cry="hey")
        night.go_on(beats=9)
        night.add(beats=4, other="ann", one="eve")
        night.lose(other="bob", one="ann")
        self.assertEqual(night.history(), [("begin", "hey", ["eve", "ann"]), ("go_on", 9), ("add", "eve", "ann", 4),
                                           ("lose", "ann", "bob")])
        self.assertEqual([night.told(cry="hey"), night.last_of(cry="hey")], [7, 4])
        self.assertEqual(night.heard_at(place=["cat", "cat", 0], cry="hey"), [3])
        self.assertEqual(night.cries_heard(place=["cat", "cat", 0]), [])
        self.assertTrue(night == self.do(Night(listed(WEB)), ("begin", "hey", ["ann", "eve"]), ("go_on", 9),
                                         ("lose", "bob", "ann"), ("add", "ann", "eve", 4)))

    def test_three_hundred_deeds(self):
        night = Night(stretched(big_web(), 333333333333))
        names = [one + other for one in "abcdefghij" for other in "abcdefghij"]
        for at, name in enumerate(names):
            self.do(night, ("begin", name, [night.web_now()[0][at % 60]]), ("go_on", at), ("go_on", END // 7))
        self.assertEqual([len(night), len(night.cries())], [300, 100])
        self.assertEqual(night.quiet_cries(), [name for name in names if night.last_of(name) <= night.beat_now()])
        for _ in range(300):
            night.back()
        self.assertTrue(night == Night(stretched(big_web(), 333333333333)))


class Refusals(Case):
    def test_no_web(self):
        for web in NO_WEBS:
            with self.assertRaises(NoWeb):
                unchanged(self, Night, web)

    def test_no_cry(self):
        night = self.do(Night(WEB), ("begin", "hey", ["ann"]))
        odd = [thing for thing in ODD_THINGS if not thing == "ann"]
        for cry in NO_NAMES + odd:
            self.assert_refused(NoCry, night, "begin", cry, ["ann"])
            self.assert_refused(NoCry, night, "begin", cry, [])
        for cry in NO_NAMES + ODD_THINGS + ["ho"]:
            self.assert_refused(NoCry, night, "told", cry)
            self.assert_refused(NoCry, night, "last_of", cry)
            self.assert_refused(NoCry, night, "heard_at", cry, ANN)
            self.assert_refused(NoCry, night, "heard_at", cry, None)

    def test_twice(self):
        night = self.do(Night(WEB), ("begin", "hey", ["ann"]), ("go_on", 99), ("begin", "ho", ["bob"]))
        for cry in ["hey", "ho"]:
            for starters in [["ann"], ["eve"], [], None]:
                self.assert_refused(Twice, night, "begin", cry, starters)
        self.do(night, ("back",), ("begin", "ho", ["cat"]), ("back",), ("back",), ("back",), ("begin", "hey", ["eve"]))
        self.assertEqual(night.history(), [("begin", "hey", ["eve"])])

    def test_no_starters(self):
        night = Night(WEB)
        for starters in NO_STARTERS + [thing for thing in ODD_THINGS if thing != ["ann"]]:
            self.assert_refused(NoStarters, night, "begin", "hey", starters)

    def test_no_beat(self):
        night = Night(WEB)
        odd = [thing for thing in ODD_THINGS if isinstance(thing, bool) or not isinstance(thing,
                                                                                          int) or thing > MOST_ON]
        for beats in NO_ONS + odd:
            self.assert_refused(NoBeat, night, "go_on", beats)
        self.assertEqual(MOST_ON, 10 ** 30)
        for beats in [0, 1, MOST_ON]:
            self.do(night, ("go_on", beats))
        self.assertEqual(night.beat_now(), MOST_ON + 1)

    def test_ways_as_of_a_web(self):
        night = Night(WEB)
        for thing in ODD_THINGS + ["fay", ANY]:
            self.assert_refused(NoFolk, night, "add", "ann", thing, 0)
            self.assert_refused(NoFolk, night, "lose", "ann", thing)
            if not isinstance(thing, int) or isinstance(thing, bool) or not 1 <= thing <= END:
                self.assert_refused(NoBeat, night, "add", "ann", "eve", thing)
                self.assert_refused(NoBeat, night, "add", "ann", "bob", thing)
        self.assert_refused(Taken, night, "add", "bob", "ann", 1)
        self.assert_refused(NoWay, night, "lose", "eve", "ann")
        full = Night(big_web())
        self.assertEqual(self.assert_refused(TooMany, full, "add", "aa", "fj", 1).many, 151)

    def test_busy_behind_all_others(self):
        night = self.do(Night(WEB), ("begin", "hey", ["ann"]))
        for _ in range(4):
            # Its last hearing is at 4: the last tellings are made a beat ahead of it.
            self.assertEqual(night.last_of("hey"), 4)
            self.assert_refused(Busy, night, "add", "ann", "eve", 1)
            self.assert_refused(Busy, night, "lose", "ann", "bob")
            self.assert_refused(NoFolk, night, "add", "ann", "fay", 0)
            self.assert_refused(NoBeat, night, "add", "ann", "bob", 0)
            self.assert_refused(Taken, night, "add", "ann", "bob", 1)
            self.assert_refused(NoFolk, night, "lose", "ann", "ann")
            self.assert_refused(NoWay, night, "lose", "ann", "eve")
            self.do(night, ("go_on", 1))
        self.do(night, ("add", "ann", "eve", 1), ("lose", "ann", "bob"))

    def test_busy_behind_too_many(self):
        night = self.do(Night(big_web()), ("begin", "hey", ["aa"]))
        self.assert_refused(TooMany, night, "add", "aa", "fj", 1)
        self.assert_refused(Busy, night, "lose", "aa", "ab")
        night.go_on(night.last_of("hey") - 1)
        self.assert_refused(Busy, night, "lose", "aa", "ab")
        self.do(night, ("go_on", 1), ("lose", "aa", "ab"), ("begin", "ho", ["aa"]))
        self.assert_refused(Busy, night, "add", "aa", "fj", 1)

    def test_any_cry_that_is_not_quiet_is_enough(self):
        night = self.do(Night(FAR), ("begin", "hey", ["b"]), ("go_on", END - 1), ("begin", "ho", ["c"]), ("go_on", 5))
        self.assertEqual(night.quiet_cries(), ["hey"])
        self.assert_refused(Busy, night, "lose", "a", "b")
        self.do(night, ("go_on", 2 * END - 7))
        self.assert_refused(Busy, night, "lose", "a", "b")
        self.do(night, ("go_on", 1), ("lose", "a", "b"))

    def test_a_cry_in_another_part_keeps_all_ways(self):
        web = (["a", "b", "c", "d"], [("a", "b", 4), ("c", "d", 1)])
        night = self.do(Night(web), ("begin", "hey", ["a"]), ("go_on", 3))
        self.assert_refused(Busy, night, "lose", "c", "d")
        self.assert_refused(Busy, night, "add", "c", "a", 5)

    def test_no_place(self):
        night = self.do(Night(WEB), ("begin", "hey", ["ann"]))
        for place in NO_PLACES + ODD_THINGS:
            self.assert_refused(NoPlace, night, "heard_at", "hey", place)
            self.assert_refused(NoPlace, night, "cries_heard", place)

    def test_nothing(self):
        night = Night(WEB)
        self.assert_refused(Nothing, night, "back")
        self.do(night, ("go_on", 3), ("back",))
        self.assert_refused(Nothing, night, "back")
        with self.assertRaises(errors.CryError):
            night.back()


class Told(Case):
    def test_what_was_handed_in_may_be_changed(self):
        web, starters = listed(WEB), ["eve", "ann"]
        night = Night(web)
        web[0][0] = "zoe"
        web[1][0][2] = 99
        web[1].pop()
        night.begin("hey", starters)
        starters.reverse()
        starters.append("bob")
        self.assertEqual(picture(night.web_now()), picture(WEB))
        self.assertEqual(night.history(), [("begin", "hey", ["eve", "ann"])])
        self.assertEqual(night.last_of("hey"), last_beat(WEB, ["ann", "eve"]))

    def test_what_is_told_is_the_askers_own(self):
        night = self.do(Night(WEB), ("begin", "hey", ["ann", "eve"]), ("go_on", 9), ("begin", "ho", ["cat"]),
                        ("go_on", 3))
        twin = night.twin()
        places = [ANN, BOB, CAT, DAN, EVE]
        before = picture(all_told(night, places))
        folk, ways = night.web_now()
        folk.clear()
        ways.reverse()
        for told in [night.cries(), night.quiet_cries(), night.heard_at("hey", CAT), night.cries_heard(BOB)]:
            told.append("zoe")
        history = night.history()
        history[0][2].append("zoe")
        history[2][2].clear()
        history.pop()
        self.assertEqual(picture(all_told(night, places)), before)
        self.assertEqual(picture(all_told(twin, places)), before)
        self.assertEqual(night.history()[0], ("begin", "hey", ["ann", "eve"]))

    def test_two_histories_share_no_list(self):
        night = self.do(Night(WEB), ("begin", "hey", ["ann"]))
        one, other = night.history(), night.history()
        one[0][2].append("bob")
        self.assertEqual(other, [("begin", "hey", ["ann"])])
        twin = night.twin()
        twin.history()[0][2].append("bob")
        self.assertEqual(twin.history(), other)

    def test_the_same_asked_again(self):
        night = self.do(Night(WEB), ("begin", "hey", ["ann"]), ("go_on", 2))
        places = list(beside(WEB))
        self.assertEqual(picture(all_told(night, places)), picture(all_told(night, places)))


class Back(Case):
    DEEDS = [("begin", "hey", ["ann"]), ("go_on", 3), ("begin", "ho", ["bob", "eve"]), ("go_on", 20),
             ("lose", "bob", "ann"),
             ("add", "eve", "ann", END), ("begin", "hi", ["eve"]), ("go_on", 10 ** 30), ("add", "ann", "bob", 4)]

    def test_each_deed_undone(self):
        night, seen = Night(WEB), []
        places = [ANN, BOB, CAT, DAN, EVE]
        for deed in self.DEEDS:
            seen.append((picture(all_told(night, places)), night.twin()))
            self.do(night, deed)
        self.assertEqual([night.history(), len(night)], [self.DEEDS, 9])
        for at in range(len(self.DEEDS) - 1, -1, -1):
            self.do(night, ("back",))
            told, twin = seen[at]
            self.assertEqual(picture(all_told(night, places)), told)
            self.assertTrue(night == twin)
            self.assertEqual([night.history(), len(night)], [self.DEEDS[:at], at])
        self.assert_refused(Nothing, night, "back")

    def test_a_deed_done_anew(self):
        night = self.do(Night(WEB), *self.DEEDS)
        for many in range(1, 10):
            for _ in range(many):
                night.back()
            self.do(night, *self.DEEDS[9 - many:])
            self.assertTrue(night == self.do(Night(WEB), *self.DEEDS))
            self.assertEqual(night.history(), self.DEEDS)

    def test_a_cry_undone_is_none(self):
        night = self.do(Night(WEB), ("begin", "hey", ["ann"]))
        self.assert_refused(Busy, night, "lose", "ann", "bob")
        night.back()
        self.assert_refused(NoCry, night, "told", "hey")
        self.assertEqual([night.cries(), night.history()], [[], []])
        self.do(night, ("lose", "ann", "bob"), ("begin", "hey", ["bob"]))
        self.assertEqual(night.last_of("hey"), 5)

    def test_beats_undone(self):
        night = self.do(Night(WEB), ("begin", "hey", ["ann"]), ("go_on", 7), ("back",))
        self.assertEqual([night.beat_now(), night.quiet_cries(), night.heard_at("hey", BOB)], [0, [], []])
        self.assert_refused(Busy, night, "lose", "ann", "bob")


class Equal(Case):
    def test_equal_by_other_deeds(self):
        one = self.do(Night(WEB), ("go_on", 3), ("begin", "hey", ["ann", "bob"]), ("go_on", 9))
        other = self.do(Night(WEB), ("add", "ann", "eve", 4), ("go_on", 1), ("lose", "eve", "ann"), ("go_on", 2),
                        ("begin", "hey", ("bob", "ann")), ("go_on", 4), ("go_on", 5), ("go_on", 7), ("back",))
        self.assertTrue(one == other)
        self.assertFalse(one != other)
        self.assertNotEqual(one.history(), other.history())
        self.assertEqual([len(one), len(other)], [3, 7])

    def test_each_thing_counts(self):
        made = [
            Night(ROW), Night((ROW[0], ROW[1][:1])), Night((ROW[0] + ["d"], ROW[1])),
            self.do(Night(ROW), ("go_on", 1)),
            self.do(Night(ROW), ("begin", "hey", ["a"])),
            self.do(Night(ROW), ("begin", "ho", ["a"])),
            self.do(Night(ROW), ("begin", "hey", ["b"])),
            self.do(Night(ROW), ("begin", "hey", ["a", "b"])),
            self.do(Night(ROW), ("begin", "hey", ["a"]), ("go_on", 1)),
            self.do(Night(ROW), ("go_on", 1), ("begin", "hey", ["a"])),
            self.do(Night(ROW), ("begin", "hey", ["a"]), ("begin", "ho", ["b"])),
            self.do(Night(ROW), ("begin", "ho", ["b"]), ("begin", "hey", ["a"])),
            self.do(Night(ROW), ("begin", "hey", ["a"]), ("go_on", 9), ("lose", "a", "b")),
            self.do(Night(ROW), ("go_on", 9), ("lose", "a", "b"), ("begin", "hey", ["a"])),
            self.do(Night(ROW), ("lose", "a", "b"), ("begin", "hey", ["a"]), ("go_on", 9)),
            # The webs now are the same, but those in which the cry began are not.
            self.do(Night(ROW), ("begin", "hey", ["c"]), ("go_on", 9)),
            self.do(Night(ROW), ("lose", "a", "b"), ("begin", "hey", ["c"]), ("go_on", 9), ("add", "a", "b", 2)),
        ]
        for at, one in enumerate(made):
            for to, other in enumerate(made):
                self.assertIs(one == other, at == to, (at, to))
                self.assertIs(one != other, at != to)

    def test_a_night_is_equal_to_nothing_else(self):
        night = Night(ROW)
        for thing in [*ODD_THINGS, ROW, [], night.web_now(), night.history(), Night]:
            self.assertIs(night == thing, False)
            self.assertIs(night != thing, True)
        self.assertIs(night == ANY, False)
        self.assertIs(night == night, True)

    def test_twins_go_on_apart(self):
        night = self.do(Night(WEB), ("begin", "hey", ["ann"]), ("go_on", 2))
        twin = night.twin()
        self.assertIs(twin.__class__, Night)
        self.assertIsNot(night, twin)
        self.assertTrue(night == twin)
        self.assertEqual([twin.history(), len(twin)], [night.history(), 2])
        told = picture(all_told(night, [CAT]))
        self.do(twin, ("go_on", 5), ("lose", "ann", "bob"), ("begin", "ho", ["bob"]))
        self.assertEqual(picture(all_told(night, [CAT])), told)
        told = picture(all_told(twin, [CAT]))
        self.do(night, ("back",), ("back",), ("add", "ann", "dan", 4), ("begin", "ho", ["eve"]))
        self.assertEqual(picture(all_told(twin, [CAT])), told)
        self.assertFalse(night == twin)
        for _ in range(5):
            twin.back()
        self.assertTrue(twin == Night(WEB))
        self.assert_refused(Nothing, twin, "back")

    def test_the_length_is_that_of_the_history(self):
        night = Night(WEB)
        self.assertEqual(len(night), 0)
        for at, deed in enumerate(Back.DEEDS):
            self.do(night, deed)
            self.assertEqual([len(night), len(night.history()), len(night.twin())], [at + 1] * 3)


class Whole(Case):
    def test_many_deeds_of_near_webs_beat_by_beat(self):
        for at, web in enumerate(some_webs(901, 30, 6, 4)):
            self.live(random.Random(at), web)

    def live(self, chance, web):
        """Do many deeds by chance, and set the Night beside the slow one behind each."""
        night, slow = Night(copy.deepcopy(web)), SlowNight(web)
        for number in range(40):
            deed = self.some_deed(chance, slow, number)
            if deed is None:
                slow.back()
                night.back()
            else:
                error = self.refusal(slow, deed)
                if error:
                    self.assert_refused(error, night, *deed)
                else:
                    slow.do(deed)
                    self.do(night, deed)
            places = list(beside(slow.web))
            self.assertEqual(picture(all_told(night, places)), picture(slow.all_told(places)))
            for cry, _, old, _ in slow.begun[-2:]:
                for place in list(beside(old))[::3]:
                    self.assertEqual(night.heard_at(cry, place), slow.heard(cry, place))
            again = Night(web)
            self.do(again, *night.history())
            self.assertTrue(again == night == night.twin())

    def some_deed(self, chance, slow, number):
        """Some deed, or None for back."""
        kind = chance.choice(["begin", "go_on", "go_on", "add", "lose", "back"])
        folk = slow.web[0]
        if kind == "back":
            return None if slow.deeds else ("go_on", 0)
        if kind == "begin":
            return kind, "abcdefgh"[:chance.randint(1, 8)], some_starters(number, folk)
        if kind == "go_on":
            return kind, chance.choice([0, 1, 1, 2, 3, 5, 30])
        if kind == "add":
            return kind, chance.choice(folk), chance.choice(folk), chance.randint(1, 4)
        return kind, chance.choice(folk), chance.choice(folk)

    def refusal(self, slow, deed):
        """The class by which the deed is refused, None where it is not."""
        if deed[0] == "begin":
            return Twice if deed[1] in [each[0] for each in slow.begun] else None
        if deed[0] == "go_on":
            return None
        if deed[1] == deed[2]:
            return NoFolk
        there = {deed[1], deed[2]} in [set(way[:2]) for way in slow.web[1]]
        if there == (deed[0] == "add"):
            return Taken if there else NoWay
        return Busy if len(slow.quiet()) < len(slow.begun) else None

    def test_as_a_web_asked_alone(self):
        chance = random.Random(903)
        for at, web in enumerate(far_webs(905, 30)):
            night, begun = Night(web), []
            for cry in ["one", "two", "three"]:
                starters = some_starters(at + len(begun), web[0])
                begun.append((cry, night.beat_now(), starters))
                self.do(night, ("begin", cry, starters), ("go_on",
                                                          chance.choice([0, 1, 7, chance.randint(1, 3 * END)])))
            now = night.beat_now()
            for cry, start, starters in begun:
                self.assertEqual(night.last_of(cry), start + last_beat(web, starters))
                self.assertEqual(night.told(cry), tellings_by(web, starters, now - start))
                self.assertEqual(cry in night.quiet_cries(), now >= start + last_beat(web, starters))
            for place in places_of(web)[::5]:
                heard = {cry: [start + beat for beat in hearings(web, starters, place)] for cry, start,
                         starters in begun}
                for cry, beats in heard.items():
                    self.assertEqual(night.heard_at(cry, place), [beat for beat in beats if beat <= now])
                self.assertEqual(night.cries_heard(place), [cry for cry, beats in heard.items() if now in beats])

    def test_just_at_a_hearing_and_a_beat_aside(self):
        for at, web in enumerate(far_webs(907, 30)):
            starters = some_starters(at, web[0])
            for place in places_of(web)[::9]:
                for beat in hearings(web, starters, place):
                    night = self.do(Night(web), ("go_on", 10 ** 30), ("begin", "hey", starters), ("go_on", beat - 1))
                    for now in [beat - 1, beat, beat + 1]:
                        heard = ["hey"] if now in hearings(web, starters, place) else []
                        self.assertEqual([night.cries_heard(place), night.told("hey")],
                                         [heard, tellings_by(web, starters, now)])
                        night.go_on(1)
                    self.assertIn(10 ** 30 + beat, night.heard_at("hey", place))

    def test_a_way_more_or_less_is_that_of_a_web_asked_from_the_start(self):
        for web in far_webs(909, 20):
            night = self.do(Night(web), ("begin", "hey", [web[0][0]]), ("go_on", 10 ** 30))
            for one, other, _ in web[1][:3]:
                for now in [without_way(web, one, other), with_way(without_way(web, other, one), other, one, END)]:
                    if now == without_way(web, one, other):
                        self.do(night, ("lose", other, one))
                    else:
                        self.do(night, ("add", other, one, END))
                    self.assertEqual(night.web_now(), now)
                    twin = self.do(night.twin(), ("begin", "ho", web[0]), ("go_on", END))
                    self.assertEqual(twin.told("ho"), tellings_by(now, web[0], END))
                    self.assertEqual(twin.last_of("ho"), 10 ** 30 + last_beat(now, web[0]))
                    self.assertEqual(twin.told("hey"), tellings(web, [web[0][0]]))
                night.back()
                night.back()
            self.assertEqual(night.web_now(), web)
