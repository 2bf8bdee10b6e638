"""What holds of each function of stage 2: refusals, and what is handed in and told [2, 3, 8, 10 to 18]."""

import copy
import unittest
from itertools import product
from unittest.mock import ANY

from elsetold import counts, errors, lots, papers, reaches
from tests.support import (NO_BEATS, NO_PLACES, NO_STARTERS, NO_WEBS, ODD_THINGS, listed, picture, spoil, tupled,
                           unchanged)

ASKED = {
    reaches.reaches: ["web", "starters", "place"],
    reaches.hearings: ["web", "starters", "place"],
    reaches.heard_of: ["web", "starters", "place", "beat"],
    reaches.tells: ["web", "starters", "place", "beat"],
    reaches.told_at: ["web", "starters", "place", "other"],
    counts.tellings: ["web", "starters"],
    counts.tellings_by: ["web", "starters", "beat"],
    counts.how_many_hear: ["web", "starters", "beat"],
    counts.last_beat: ["web", "starters"],
    counts.loudest: ["web", "starters"],
    counts.dying: ["web", "starters"],
    papers.walk_to: ["web", "starters", "place", "beat"],
    papers.is_walk: ["web", "starters", "place", "beat", "thing"],
    papers.all_reaches: ["web", "starters"],
    papers.are_bounds: ["web", "starters", "thing"],
    papers.shows_not_sooner: ["web", "starters", "place", "beat", "thing"],
    lots.whose: ["web", "starters", "place", "beat"],
    lots.gone_twice: ["web", "starters"],
    lots.alike_from: ["web", "starters", "others"],
    lots.told_apart: ["web", "starters", "others"],
}
FOLK = ["ann", "bob", "cat", "dan", "eve"]
WEB = (FOLK, [("ann", "bob", 1), ("ann", "cat", 3), ("bob", "cat", 1), ("cat", "dan", 10 ** 12)])
BOUNDS = {"ann": (0, 5), "bob": (4, 1), "cat": (2, 3), "dan": (10 ** 12 + 2, 10 ** 12 + 3), "eve": (None, None)}
END = 10 ** 12
GOOD = {
    "web": WEB, "starters": ["ann"], "place": ("cat", "cat", 0), "other": ("cat", "dan", 1), "beat": 3,
    "others": ["dan", "bob"],
}
THINGS = {papers.is_walk: ["ann", "cat"], papers.are_bounds: BOUNDS, papers.shows_not_sooner: BOUNDS}
# By hand: bob hears at 1 and 4, cat at 2 and 3, ann at 5, dan behind that.
TOLD = {
    reaches.reaches: (2, 3),
    reaches.hearings: [2, 3],
    reaches.heard_of: [("ann", "cat", 2)],
    reaches.tells: [("bob", "bob", 0), ("cat", "dan", 1)],
    reaches.told_at: [2, 3],
    counts.tellings: 2 * (END + 5),
    counts.tellings_by: 11,
    counts.how_many_hear: 3,
    counts.last_beat: END + 3,
    counts.loudest: (4, 4),
    counts.dying: [(5, ("ann", "ann", 0)), (END + 2, ("dan", "dan", 0)), (END + 3, ("dan", "dan", 0))],
    papers.walk_to: ["ann", "cat"],
    papers.is_walk: True,
    papers.all_reaches: BOUNDS,
    papers.are_bounds: True,
    papers.shows_not_sooner: True,
    lots.whose: ["ann"],
    lots.gone_twice: [["ann", "bob", "cat", "dan"]],
    lots.alike_from: END + 4,
    lots.told_apart: (1, "ann"),
}
WRONG = {"web": (FOLK, WEB[1] * 2), "starters": ["ann", "ann"], "place": ("cat", "dan", END), "other": ("dan", "cat", 1),
         "beat": -1, "others": []}
ERRORS = {"web": errors.NoWeb, "starters": errors.NoStarters, "place": errors.NoPlace, "other": errors.NoPlace,
          "beat": errors.NoBeat, "others": errors.NoStarters}


def handed_to(call, **others):
    """A row of good things for the call, each a copy, with these ones in the place of theirs."""
    found = {**GOOD, "thing": THINGS.get(call), **others}
    return [copy.deepcopy(found[name]) if found[name] is not ANY else ANY for name in ASKED[call]]


class Case(unittest.TestCase):
    def assert_refused(self, error, call, handed):
        with self.subTest(call=call.__name__, handed=str(handed)[:300]):
            with self.assertRaises(error) as caught:
                unchanged(self, call, *handed)
            self.assertIs(caught.exception.__class__, error)

    def assert_each_refused(self, name, error, things):
        for call, names in ASKED.items():
            if name in names:
                for thing in things:
                    self.assert_refused(error, call, handed_to(call, **{name: thing}))


class Refusals(Case):
    def test_in_the_order_of_the_interface(self):
        for call, names in ASKED.items():
            names = [name for name in names if name != "thing"]
            for lot in product([False, True], repeat=len(names)):
                wrong = {name: WRONG[name] for name, bad in zip(names, lot) if bad}
                if wrong:
                    first = [name for name in names if name in wrong][0]
                    self.assert_refused(ERRORS[first], call, handed_to(call, **wrong))

    def test_no_web(self):
        self.assert_each_refused("web", errors.NoWeb, NO_WEBS)

    def test_no_starters(self):
        self.assert_each_refused("starters", errors.NoStarters, NO_STARTERS)
        self.assert_each_refused("others", errors.NoStarters, NO_STARTERS)

    def test_no_place(self):
        self.assert_each_refused("place", errors.NoPlace, NO_PLACES)
        self.assert_each_refused("other", errors.NoPlace, NO_PLACES)

    def test_no_beat(self):
        self.assert_each_refused("beat", errors.NoBeat, NO_BEATS)

    def test_odd_things(self):
        for name in ["web", "starters", "place", "other", "others"]:
            self.assert_each_refused(name, ERRORS[name], ODD_THINGS)
        beats = [thing for thing in ODD_THINGS
                 if isinstance(thing, bool) or not isinstance(thing, int) or thing < 0]
        self.assert_each_refused("beat", errors.NoBeat, beats)

    def test_a_paper_is_never_refused_and_what_is_none_is_not_looked_at_behind_a_refusal(self):
        for call in [papers.is_walk, papers.are_bounds, papers.shows_not_sooner]:
            for thing in ODD_THINGS + [ANY, [ANY], {"ann": ANY}]:
                names = ASKED[call][:-1]
                handed = [GOOD[name] for name in names]
                self.assertIs(call(*handed, thing), False)
                for at, name in enumerate(names):
                    with self.assertRaises(ERRORS[name]):
                        call(*handed[:at], WRONG[name], *handed[at + 1:], thing)

    def test_what_is_refused_changes_nothing(self):
        for call, names in ASKED.items():
            told = picture(call(*handed_to(call)))
            for name in names:
                if name != "thing":
                    self.assert_refused(ERRORS[name], call, handed_to(call, **{name: WRONG[name]}))
            self.assertEqual(picture(call(*handed_to(call))), told)


class Told(Case):
    def test_ordinary(self):
        for call, told in TOLD.items():
            with self.subTest(call.__name__):
                self.assertEqual(picture(unchanged(self, call, *handed_to(call))), picture(told))

    def test_by_names_in_any_order(self):
        for call, names in ASKED.items():
            handed = handed_to(call)
            told = picture(call(*handed))
            by_name = dict(zip(names, handed))
            self.assertEqual(picture(call(**by_name)), told)
            self.assertEqual(picture(call(**{name: by_name[name] for name in reversed(names)})), told)

    def test_lists_and_tuples_stand_for_one_another(self):
        for call in ASKED:
            told = picture(call(*handed_to(call)))
            for other in [listed, tupled]:
                handed = [other(thing) for thing in handed_to(call)]
                self.assertEqual(picture(unchanged(self, call, *handed)), told)

    def test_bounds_of_lists_and_in_another_order(self):
        bounds = {name: list(BOUNDS[name]) for name in reversed(FOLK)}
        for call in [papers.are_bounds, papers.shows_not_sooner]:
            self.assertIs(unchanged(self, call, *handed_to(call, thing=bounds)), True)

    def test_what_is_told_is_the_askers_own(self):
        for call in ASKED:
            handed = handed_to(call)
            first = call(*handed)
            told = picture(first)
            before = picture(handed)
            spoil(first)
            self.assertEqual(picture(handed), before)
            self.assertEqual(picture(call(*handed)), told)

    def test_two_answers_share_nothing_that_can_be_changed(self):
        for call in ASKED:
            handed = handed_to(call)
            first, second = call(*handed), call(*handed)
            if isinstance(first, (list, dict)):
                self.assertIsNot(first, second)
            told = picture(second)
            spoil(first)
            self.assertEqual(picture(second), told)

    def test_the_parts_within_what_is_told_are_new_too(self):
        told = lots.gone_twice(WEB, ["ann"])
        told[0].clear()
        self.assertEqual(lots.gone_twice(WEB, ["ann"]), [["ann", "bob", "cat", "dan"]])

    def test_what_is_told_is_not_changed_through_what_was_handed_in(self):
        for call in ASKED:
            handed = [listed(thing) for thing in handed_to(call)]
            first = call(*handed)
            told = picture(first)
            for thing in handed:
                spoil(thing)
            self.assertEqual(picture(first), told)

    def test_what_was_handed_in_is_changed_where_it_stands_and_asked_anew(self):
        for call, names in ASKED.items():
            web = listed(WEB)
            handed = [web] + handed_to(call)[1:]
            told = picture(call(*handed))
            web[1][2][2] = 4
            web[1][3][2] = 6
            handed[1].append("eve")
            fresh = [listed(web), ["ann", "eve"]] + handed_to(call)[2:]
            self.assertEqual(picture(call(*handed)), picture(call(*fresh)))
            web[1][2][2], web[1][3][2] = 1, END
            handed[1].pop()
            self.assertEqual(picture(call(*handed)), told)

    def test_starters_in_whatever_order(self):
        for call, names in ASKED.items():
            for lot in [["ann", "dan", "eve"], ["cat", "bob", "ann"], FOLK]:
                told = picture(call(*handed_to(call, starters=lot)))
                for other in [lot[::-1], lot[1:] + lot[:1], tuple(lot)]:
                    self.assertEqual(picture(call(*handed_to(call, starters=other))), told)
                    if "others" in names:
                        self.assertEqual(picture(call(*handed_to(call, starters=other, others=lot))),
                                         picture(call(*handed_to(call, starters=lot, others=other))))

    def test_a_night_of_nobody_else(self):
        alone = (["ann"], [])
        place = ("ann", "ann", 0)
        wanted = {
            reaches.reaches: (0, None), reaches.hearings: [], reaches.heard_of: [], reaches.tells: [],
            counts.tellings: 0, counts.tellings_by: 0, counts.how_many_hear: 0, counts.last_beat: 0,
            counts.loudest: (0, 0), counts.dying: [], papers.walk_to: ["ann"], papers.is_walk: True,
            papers.all_reaches: {"ann": (0, None)}, papers.are_bounds: True, papers.shows_not_sooner: True,
            lots.whose: ["ann"], lots.gone_twice: [], lots.alike_from: 0, lots.told_apart: None,
        }
        for call, told in wanted.items():
            thing = ["ann"] if call is papers.is_walk else {"ann": (0, None)}
            handed = handed_to(call, web=alone, starters=["ann"], others=["ann"], place=place, beat=0, thing=thing)
            self.assertEqual(picture(unchanged(self, call, *handed)), picture(told), call.__name__)
        with self.assertRaises(errors.NoNeighbour):
            reaches.told_at(alone, ["ann"], place, place)
