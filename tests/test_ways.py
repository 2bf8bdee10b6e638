"""Webs with a way more or less, needless ways, and ways in all odd rounds [4, 22, 23]."""

from itertools import combinations
from unittest.mock import ANY

from elsetold.counts import last_beat, tellings
from elsetold.errors import NoBeat, NoFolk, NoStarters, NoWay, NoWeb, Taken, TooMany
from elsetold.papers import all_reaches
from elsetold.reaches import hearings
from elsetold.ways import in_all_odd_rounds, needless, with_way, without_way
from elsetold.webs import is_web, odd_round, parts
from tests.support import (END, NO_WEBS, ODD_THINGS, WEB, AskingCase, big_web, far_webs, folk_of, least_far_walks,
                           listed, some_starters, some_webs, stretched, three_folk_lots, tupled, walk_lengths)

FOLK, WAYS = WEB
NONE = (["a", "b", "c"], [])
NINE = (["a", "b", "c", "d"], [("a", "b", 2), ("a", "c", 4), ("b", "c", 3), ("c", "d", 1)])
# No way that has more beats than a way may, fewer than one, or none at all.
NO_WAY_BEATS = [0, -1, END + 1, 10 ** 39, True, False, None, "3", b"3", [3], (3,), {}, {3}, ANY]


def without(web, at):
    """The web without its way of this number."""
    return web[0], web[1][:at] + web[1][at + 1:]


class Case(AskingCase):
    def assert_web(self, told, call, *handed):
        """The call tells just this web, of the kinds that webs are told of."""
        self.assert_told(told, call, *handed)
        found = call(*handed)
        self.assertIs(is_web(found), True)
        self.assertEqual([found[0].__class__, found[1].__class__], [list, list])
        self.assertTrue(all([way.__class__ is tuple for way in found[1]]))


class WayMore(Case):
    def test_ordinary(self):
        self.assert_web((FOLK, [("ann", "bob", 1), ("ann", "cat", 3), ("bob", "cat", 2), ("bob", "eve", 7),
                                ("cat", "dan", 1)]), with_way, WEB, "bob", "eve", 7)
        self.assert_web((["a", "b", "c"], [("a", "c", END)]), with_way, NONE, "a", "c", END)
        self.assert_web((["a", "b", "c"], [("a", "c", 1)]), with_way, NONE, "a", "c", 1)

    def test_the_lesser_name_stands_ahead(self):
        for one, other in combinations(FOLK, 2):
            if (one, other) not in [way[:2] for way in WAYS]:
                told = with_way(WEB, one, other, 5)
                self.assertIn((one, other, 5), told[1])
                self.assert_web(told, with_way, WEB, other, one, 5)

    def test_lists_and_tuples_and_names(self):
        told = with_way(WEB, "eve", "ann", 5)
        for web in [listed(WEB), tupled(WEB)]:
            self.assert_web(told, with_way, web, "eve", "ann", 5)
        self.assertEqual(with_way(beats=5, other="ann", one="eve", web=WEB), told)

    def test_no_folk(self):
        for one, other in [("ann", "ann"), ("ann", "fay"), ("fay", "ann"), ("fay", "gus"), ("fay", "fay"), ("ann", ""),
                           ("ann", ["bob"]), (("ann", "ann", 0), "bob"), ("ann", b"bob"), (ANY, "ann"), ("ann", ANY)]:
            self.assert_refused(NoFolk, with_way, WEB, one, other, 5)
            self.assert_refused(NoFolk, without_way, WEB, one, other)

    def test_odd_things(self):
        for thing in ODD_THINGS:
            if thing != "ann":
                self.assert_refused(NoFolk, with_way, WEB, thing, "eve", 5)
                self.assert_refused(NoFolk, without_way, WEB, thing, "bob")
            self.assert_refused(NoFolk, with_way, WEB, "ann", thing, 5)
            self.assert_refused(NoFolk, without_way, WEB, "ann", thing)
            if not isinstance(thing, int) or isinstance(thing, bool) or not 1 <= thing <= END:
                self.assert_refused(NoBeat, with_way, WEB, "ann", "eve", thing)

    def test_no_beat(self):
        for beats in NO_WAY_BEATS:
            self.assert_refused(NoBeat, with_way, WEB, "ann", "eve", beats)
            # Ahead of Taken, and behind NoFolk.
            self.assert_refused(NoBeat, with_way, WEB, "ann", "bob", beats)
            self.assert_refused(NoFolk, with_way, WEB, "ann", "ann", beats)

    def test_taken(self):
        for one, other, beats in WAYS:
            for more in [beats, beats + 1, 1, END]:
                self.assert_refused(Taken, with_way, WEB, one, other, more)
                self.assert_refused(Taken, with_way, WEB, other, one, more)

    def test_a_hundred_and_fifty_ways_and_one_more(self):
        web = big_web()
        self.assertEqual(len(web[1]), 150)
        error = self.assert_refused(TooMany, with_way, web, "aa", "fj", 1)
        self.assertEqual(error.many, 151)
        self.assert_refused(Taken, with_way, web, "aa", "ab", 1)
        self.assert_refused(NoBeat, with_way, web, "aa", "ab", 0)
        self.assert_refused(NoBeat, with_way, web, "aa", "fj", 0)
        self.assert_refused(NoFolk, with_way, web, "aa", "aa", 0)
        less = without(web, 77)
        one, other, beats = web[1][77]
        self.assert_web(web, with_way, less, other, one, beats)

    def test_no_web(self):
        for web in NO_WEBS:
            self.assert_refused(NoWeb, with_way, web, "ann", "ann", 0)
            self.assert_refused(NoWeb, without_way, web, "ann", "ann")
            self.assert_refused(NoWeb, needless, web, [])
            self.assert_refused(NoWeb, in_all_odd_rounds, web)


class WayLess(Case):
    def test_ordinary(self):
        self.assert_web((FOLK, [("ann", "bob", 1), ("ann", "cat", 3), ("cat", "dan", 1)]), without_way, WEB, "bob",
                        "cat")
        self.assert_web((["a", "b"], []), without_way, (["a", "b"], [("a", "b", END)]), "a", "b")

    def test_each_way_in_both_orders(self):
        for at, (one, other, _) in enumerate(WAYS):
            self.assert_web(without(WEB, at), without_way, WEB, one, other)
            self.assert_web(without(WEB, at), without_way, listed(WEB), other, one)
            self.assertEqual(without_way(other=other, web=tupled(WEB), one=one), without(WEB, at))

    def test_no_way(self):
        for one, other in combinations(FOLK, 2):
            if (one, other) not in [way[:2] for way in WAYS]:
                self.assert_refused(NoWay, without_way, WEB, one, other)
                self.assert_refused(NoWay, without_way, WEB, other, one)
        self.assert_refused(NoWay, without_way, NONE, "a", "b")

    def test_there_and_back_again(self):
        for web in some_webs(601, 40, 8, 9) + far_webs(603, 20):
            for one, other, beats in web[1]:
                less = without_way(web, one, other)
                self.assert_refused(NoWay, without_way, less, one, other)
                self.assert_web(web, with_way, less, one, other, beats)
            for one, other in combinations(web[0], 2):
                if (one, other) not in [way[:2] for way in web[1]]:
                    more = with_way(web, other, one, END)
                    self.assert_refused(Taken, with_way, more, one, other, 1)
                    self.assert_web(web, without_way, more, one, other)

    def test_the_web_that_is_told_is_the_askers_own(self):
        for call, handed in [(with_way, ["ann", "eve", 5]), (without_way, ["ann", "bob"])]:
            web = listed(WEB)
            told = call(web, *handed)
            told[0].append("zoe")
            told[1].clear()
            self.assertEqual(web, listed(WEB))
            told = call(web, *handed)
            web[0][0] = "abe"
            web[1].clear()
            self.assertEqual(told, call(WEB, *handed))


class Needless(Case):
    def test_ordinary(self):
        self.assert_told([("b", "c", 5)], needless, (["a", "b", "c"], [("a", "b", 1), ("a", "c", 2), ("b", "c", 5)]),
                         ["a"])
        even = (NINE[0], [("a", "b", 2), ("a", "c", 3), ("b", "c", 7), ("c", "d", 1)])
        self.assert_told([("b", "c", 7)], needless, even, ["a"])

    def test_no_ways_and_one(self):
        self.assert_told([], needless, NONE, ["a", "b"])
        self.assert_told([], needless, (["a"], []), ["a"])
        self.assert_told([], needless, (["a", "b"], [("a", "b", 3)]), ["a"])
        self.assert_told([], needless, (["a", "b"], [("a", "b", 3)]), ["a", "b"])
        # Two who both begin tell one another at an even beat nothing that they hear.
        self.assert_told([("a", "b", 4)], needless, (["a", "b"], [("a", "b", 4)]), ["a", "b"])

    def test_spots_do_not_count(self):
        self.assert_told([("a", "b", END)], needless, (["a", "b"], [("a", "b", END)]), ["b", "a"])

    def test_in_parts_in_which_nobody_begins_all_are(self):
        web = (["a", "b", "c", "d"], [("a", "b", 1), ("c", "d", 7)])
        self.assert_told([("c", "d", 7)], needless, web, ["b"])
        self.assert_told([("a", "b", 1)], needless, web, ["d"])
        self.assert_told([], needless, web, ["d", "a"])

    def test_two_ways_that_are_as_good(self):
        # Each alone is needless, though not both.
        web = (["a", "b", "c", "d"], [("a", "b", 2), ("a", "c", 2), ("b", "d", 2), ("c", "d", 2)])
        self.assert_told([("b", "d", 2), ("c", "d", 2)], needless, web, ["a"])
        self.assert_told([("a", "b", 2), ("a", "c", 2)], needless, web, ["d"])

    def test_a_way_that_only_the_other_kind_needs(self):
        self.assert_told([], needless, NINE, ["a"])
        # c hears at 4 straight from a, and at 5 by b.
        self.assert_told([4, 5], hearings, NINE, ["a"], ("c", "c", 0))
        self.assert_told([4], hearings, without(NINE, 2), ["a"], ("c", "c", 0))

    def test_no_starters(self):
        for starters in [[], ["z"], ["a", "a"], None, "a", ANY]:
            self.assert_refused(NoStarters, needless, NINE, starters)

    def test_all_webs_of_three_folk(self):
        for web, lots in three_folk_lots([0, 1, 2, 3, 4]):
            for starters in lots:
                self.assert_needless(web, list(starters))

    def test_many_webs(self):
        for at, web in enumerate(some_webs(605, 120, 8, 6)):
            self.assert_needless(web, some_starters(at, web[0]))

    def assert_needless(self, web, starters):
        """By going over all places of a near web."""
        folk = [(name, name, 0) for name in web[0]]
        kept = []
        for at, way in enumerate(web[1]):
            nights = [walk_lengths(each, starters) for each in (web, without(web, at))]
            heard = [[night.get((place, kind)) for place in folk for kind in (0, 1)] for night in nights]
            if heard[0] == heard[1]:
                kept.append(way)
        self.assert_told(kept, needless, web, starters)

    def test_far_webs(self):
        for at, web in enumerate(far_webs(607, 40)):
            starters = some_starters(at, web[0])
            least = least_far_walks(web, starters)
            kept = [way for at, way in enumerate(web[1]) if least_far_walks(without(web, at), starters) == least]
            self.assert_told(kept, needless, web, starters)
            for one, other, _ in kept:
                less = without_way(web, one, other)
                for name in web[0]:
                    self.assertEqual(hearings(less, starters, (name, name, 0)),
                                     hearings(web, starters, (name, name, 0)))

    def test_sixty_folk_and_a_hundred_and_fifty_ways(self):
        web, by = big_web(), 333333333333
        found = needless(web, ["ae", "fc"])
        far = [(one, other, beats * by) for one, other, beats in found]
        self.assertEqual(needless(stretched(web, by), ["ae", "fc"]), far)
        least = least_far_walks(web, ["ae", "fc"])
        kept = [least_far_walks(without(web, at), ["ae", "fc"]) == least for at in range(150)]
        self.assertEqual([way for way, same in zip(web[1], kept) if same], found)


class InAllOddRounds(Case):
    def test_none_where_all_rounds_are_even(self):
        for web in [NONE, (["a"], []), (["a", "b"], [("a", "b", 3)]), (["a", "b", "c"], [("a", "b", 1), ("b", "c", 2)]),
                    (["a", "b", "c"], [("a", "b", 1), ("a", "c", END), ("b", "c", 1)])]:
            self.assert_told(None, in_all_odd_rounds, web)

    def test_one_odd_round(self):
        self.assert_told([("a", "b", 2), ("a", "c", 4), ("b", "c", 3)], in_all_odd_rounds, NINE)

    def test_a_way_from_one_odd_round_to_another_is_in_none(self):
        web = (["a", "b", "c", "d", "e"], [("a", "b", 1), ("a", "c", 1), ("b", "c", 1), ("c", "d", 1), ("d", "e", 1)])
        self.assert_told([("a", "b", 1), ("a", "c", 1), ("b", "c", 1)], in_all_odd_rounds, web)
        two = (web[0], sorted([*web[1], ("c", "e", 1)]))
        self.assert_told([], in_all_odd_rounds, two)
        apart = (list("abcdef"), [("a", "b", 1), ("a", "c", 1), ("b", "c", 1), ("d", "e", 1), ("d", "f", 1),
                                  ("e", "f", 1)])
        self.assert_told([], in_all_odd_rounds, apart)

    def test_one_way_in_all_of_them(self):
        web = (list("abcd"), [("a", "b", 1), ("a", "c", 1), ("a", "d", 1), ("b", "c", 1), ("b", "d", 1)])
        self.assert_told([("a", "b", 1)], in_all_odd_rounds, web)
        far = (list("abcd"), [("a", "b", END - 1), ("a", "c", END), ("a", "d", 1), ("b", "c", 2), ("b", "d", 3)])
        self.assert_told([("a", "b", END - 1)], in_all_odd_rounds, far)

    def test_an_even_round_beside_an_odd_one(self):
        web = (list("abcd"), [("a", "b", 1), ("a", "c", 1), ("b", "c", 1), ("b", "d", 1), ("c", "d", 2)])
        self.assert_told([("a", "b", 1), ("a", "c", 1)], in_all_odd_rounds, web)

    def test_as_odd_rounds_of_the_web_with_a_way_less(self):
        for web in some_webs(611, 200, 8, 5) + far_webs(613, 60):
            wanted = [way for at, way in enumerate(web[1]) if odd_round(without(web, at)) is None]
            self.assert_told(None if odd_round(web) is None else wanted, in_all_odd_rounds, web)

    def test_sixty_folk_and_a_hundred_and_fifty_ways(self):
        folk = folk_of(60)
        ways = [(one, other, 2) for one, other in combinations(folk[:18], 2)][:148]
        # One odd way along a row of even ones is in all odd rounds.
        web = (folk, sorted([*ways, ("bh", "bi", 1), ("aa", "bi", 2)]))
        self.assertEqual(len(web[1]), 150)
        self.assert_told([("aa", "bi", 2), ("bh", "bi", 1)], in_all_odd_rounds, web)


class Whole(Case):
    def test_a_way_more_makes_no_reach_of_its_kind_greater(self):
        for at, web in enumerate(some_webs(615, 30, 7, 6) + far_webs(617, 20)):
            starters = some_starters(at, web[0])
            before = all_reaches(web, starters)
            for one, other in combinations(web[0], 2):
                if (one, other) not in [way[:2] for way in web[1]]:
                    after = all_reaches(with_way(web, one, other, at * at + 1), starters)
                    for name in web[0]:
                        for old, new in zip(before[name], after[name]):
                            self.assertTrue(old is None or new <= old)

    def test_the_same_as_a_web_asked_from_the_start(self):
        for at, web in enumerate(far_webs(619, 30)):
            starters = some_starters(at, web[0])
            grown = (web[0], [])
            for one, other, beats in reversed(web[1]):
                grown = with_way(grown, other, one, beats)
            self.assertEqual(grown, web)
            for call in [tellings, last_beat, all_reaches, needless]:
                self.assertEqual(call(grown, starters), call(web, starters))
            for one, other, _ in web[1]:
                grown = without_way(grown, one, other)
            self.assertEqual(grown, (web[0], []))
            self.assertEqual(parts(grown), [[name] for name in web[0]])
            self.assertEqual(tellings(grown, starters), 0)
