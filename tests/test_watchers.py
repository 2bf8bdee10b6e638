"""Who may have begun, by a record of watchers, and papers that nobody can [4, 19, 20, 21]."""

import random
from itertools import chain, combinations, permutations
from unittest.mock import ANY

from elsetold.errors import NoRecord, NoWeb, TooMany
from elsetold.reaches import hearings
from elsetold.watchers import is_torn, least_lot, lots_counted, may_begin, torn
from tests.support import (NO_RECORDS, ODD_THINGS, AskingCase, big_web, far_webs, folk_of, hearings_of, least_far_walks,
                           listed, slow_night, some_starters, some_webs, stretched, tupled, unchanged, walk_lengths)

END = 10 ** 12
# Nine beats round, one beyond, and two by themselves.
WEB = (["a", "b", "c", "d", "e", "f"], [("a", "b", 2), ("a", "c", 4), ("b", "c", 3), ("c", "d", 1), ("e", "f", 6)])
ROW = (["a", "b", "c"], [("a", "b", 2), ("b", "c", 3)])
FAR = (["a", "b", "c"], [("a", "b", END), ("b", "c", END - 1)])
# A row of thirteen who are all a beat from the next one.
LONG = (folk_of(13), [(one, other, 1) for one, other in zip(folk_of(13), folk_of(13)[1:])])


def all_lots(folk):
    """All lots of starters."""
    return list(chain.from_iterable([combinations(folk, many) for many in range(1, len(folk) + 1)]))


def fits(beats, record):
    """Whether all heard beats are hearings and no still one is, by a dict of the beats at which each one hears."""
    for name, (heard, still) in record.items():
        if not set(heard) <= set(beats[name]):
            return False
        if any([first <= beat <= last for beat in beats[name] for first, last in still]):
            return False
    return True


def beats_by_lot(web):
    """For each lot of a near web, at which beats each of the folk hears."""
    told = {}
    for lot in all_lots(web[0]):
        heard = hearings_of(slow_night(web, lot))
        told[lot] = {name: [beat for place, beat in heard if place == (name, name, 0)] for name in web[0]}
    return told


def some_record(chance, beats, folk, fair):
    """A record of some of the folk, of one who heard at these beats; where it is not fair, with other beats in it."""
    record = {}
    for name in chance.sample(folk, chance.randint(0, min(4, len(folk)))):
        heard = sorted([beat for beat in beats[name] if chance.random() < 0.5])
        still = []
        for _ in range(chance.randint(0, 3)):
            first = chance.randint(1, 12)
            last = first + chance.randint(0, 4)
            if not fair and chance.random() < 0.3 or not any([first <= beat <= last for beat in beats[name]]):
                still.append((first, last))
        if not fair and chance.random() < 0.2:
            heard = sorted(set(heard) | {chance.randint(1, 9)})
        record[name] = (heard, still)
    return record


def slow_is_torn(least, folk, record, paper):
    """Whether it is a paper that no lot fits, by the words of point 21; least has (name, watcher, kind)."""
    bars, end = paper
    left = list(folk)
    for name, watcher, beat in bars:
        if name not in left:
            return False
        heard, still = record[watcher]
        walk = least.get((name, watcher, beat % 2))
        sooner = walk is not None and walk < beat and beat in heard
        others = [least[(each, watcher, beat % 2)] for each in left if (each, watcher, beat % 2) in least]
        in_some = [first for first, last in still if first <= beat <= last]
        just = walk == beat and any([not any([other < first for other in others]) for first in in_some])
        if not (sooner or just):
            return False
        left.remove(name)
    if end is None:
        return left == []
    watcher, beat = end
    return beat in record[watcher][0] and all([least.get((name, watcher, beat % 2)) != beat for name in left])


def near_least(web):
    """The least walks of a near web, from (name, watcher, kind)."""
    found = {}
    for name in web[0]:
        for (place, kind), beats in walk_lengths(web, [name]).items():
            if place[0] == place[1]:
                found[(name, place[0], kind)] = beats
    return found


def far_least(web):
    """The least walks of any web, from (name, watcher, kind)."""
    return {(name, other, kind): beats for name in web[0]
            for (other, kind), beats in least_far_walks(web, [name]).items()}


class Case(AskingCase):
    def assert_lots(self, web, record, greatest, many, least):
        """What is told of who may have begun, and of there being no paper where somebody may."""
        self.assert_told(greatest, may_begin, web, record)
        self.assert_told(many, lots_counted, web, record)
        self.assert_told(least, least_lot, web, record)
        paper = unchanged(self, torn, web, record)
        self.assertEqual(paper is None, greatest is not None)
        if paper is not None:
            self.assert_paper(web, record, paper)

    def assert_paper(self, web, record, paper):
        self.assertEqual([paper.__class__, len(paper), paper[0].__class__], [tuple, 2, list])
        for bar in paper[0]:
            self.assertEqual([bar.__class__, len(bar)], [tuple, 3])
        self.assertIn(paper[1].__class__, [tuple, None.__class__])
        self.assertIs(unchanged(self, is_torn, web, record, paper), True)


class Lots(Case):
    def test_a_record_of_nobody(self):
        self.assert_lots(WEB, {}, list("abcdef"), 63, ["a"])
        self.assert_lots((["a"], []), {}, ["a"], 1, ["a"])
        self.assert_lots(FAR, {}, list("abc"), 7, ["a"])

    def test_watchers_of_whom_nothing_is_known(self):
        self.assert_lots(WEB, {"a": ([], []), "f": ([], [])}, list("abcdef"), 63, ["a"])

    def test_one_beat_that_was_heard(self):
        self.assert_lots(ROW, {"a": ([2], [])}, ["b", "c"], 2, ["b"])
        self.assert_lots(ROW, {"a": ([5], [])}, ["a", "b", "c"], 4, ["c"])
        self.assert_lots(ROW, {"c": ([3], [])}, ["a", "b", "c"], 4, ["b"])
        self.assert_lots(ROW, {"c": ([5], [])}, ["a", "c"], 2, ["a"])

    def test_who_began_hears_at_no_even_beat(self):
        self.assert_lots(ROW, {"b": ([2], [])}, ["a", "c"], 2, ["a"])
        self.assert_lots(ROW, {"a": ([2], []), "b": ([2], [])}, None, 0, None)
        web = (["a", "b"], [("a", "b", 1)])
        self.assert_lots(web, {"a": ([1], [])}, ["a", "b"], 2, ["b"])
        self.assert_lots(web, {"a": ([2], [])}, None, 0, None)

    def test_two_beats_of_one_kind_nobody_hears_at(self):
        self.assert_lots(WEB, {"d": ([5, 7], [])}, None, 0, None)
        # At an odd and at an even beat one hears where both are least.
        self.assert_lots(WEB, {"d": ([5, 6], [])}, ["a", "e", "f"], 4, ["a"])

    def test_a_beat_at_which_nothing_was_heard(self):
        # With a, who has the walk of 0 beats, b may have begun, too.
        self.assert_lots(ROW, {"a": ([], [(2, 2)])}, ["a", "b", "c"], 5, ["a"])
        self.assert_lots(ROW, {"a": ([], [(1, 1)])}, ["a", "b", "c"], 7, ["a"])
        self.assert_lots(ROW, {"a": ([], [(5, 9)])}, ["a", "b"], 3, ["a"])
        self.assert_lots(ROW, {"b": ([], [(1, 9)])}, ["a", "b"], 2, ["b"])

    def test_stretches_of_all_lengths_and_in_any_order(self):
        for still in [[(1, END)], [(1, 4), (3, 9)], [(5, 5), (1, 3), (5, 5)], [(1, 10 ** 39), (2, 2)],
                      [(3, 3), (2, 2)]]:
            self.assert_lots(ROW, {"b": ([], still)}, ["a", "b"], 2, ["b"])

    def test_a_beat_that_is_heard_and_lies_in_a_still_stretch(self):
        self.assert_lots(ROW, {"a": ([2], [(2, 2)])}, None, 0, None)
        self.assert_lots(ROW, {"a": ([2], [(1, 9)])}, None, 0, None)
        self.assert_lots(ROW, {"a": ([2], [(3, 9), (1, 1)])}, ["b"], 1, ["b"])
        self.assert_lots(ROW, {"b": ([10 ** 39], [(10 ** 39, 10 ** 39)])}, None, 0, None)

    def test_a_still_stretch_behind_an_earlier_hearing_of_its_kind(self):
        # c alone is heard by a at 5; with a or with b nothing is heard there at 5, if b is of the same kind.
        web = (["a", "b", "c"], [("a", "b", 1), ("a", "c", 5)])
        self.assert_lots(web, {"a": ([], [(5, 5)])}, ["a", "b", "c"], 7 - 2, ["a"])
        self.assert_lots(web, {"a": ([1], [(5, 5)])}, ["a", "b", "c"], 4, ["b"])
        self.assert_lots(web, {"a": ([], [(5, 5), (1, 1)])}, ["a"], 1, ["a"])

    def test_nobody_hears_in_a_part_in_which_nobody_begins(self):
        self.assert_lots(WEB, {"e": ([6], [])}, list("abcdf"), 16, ["f"])
        self.assert_lots(WEB, {"e": ([5], [])}, None, 0, None)
        self.assert_lots(WEB, {"a": ([], [(1, 99)])}, ["e", "f"], 3, ["e"])
        self.assert_lots(WEB, {"a": ([], [(1, 99)]), "f": ([], [(1, 99)])}, ["e", "f"], 2, ["f"])
        self.assert_lots(WEB, {"a": ([], [(1, 99)]), "f": ([6], [])}, ["e"], 1, ["e"])

    def test_nobody_can_have_begun_though_nothing_was_heard(self):
        # By whoever begins, a hears at an odd beat: of b or c at 1, of herself at 3.
        web = (["a", "b", "c"], [("a", "b", 1), ("a", "c", 1), ("b", "c", 1)])
        for last in [3, 4, END]:
            self.assert_lots(web, {"a": ([], [(1, last)])}, None, 0, None)
            self.assertIsNone(torn(web, {"a": ([], [(1, last)])})[1])
        self.assert_lots(web, {"a": ([], [(1, 2)])}, ["a"], 1, ["a"])
        self.assert_lots(web, {"a": ([], [(2, 9)])}, ["a", "b", "c"], 3, ["a", "b"])

    def test_somebody_alone(self):
        self.assert_lots((["a"], []), {"a": ([], [(1, END)])}, ["a"], 1, ["a"])
        for beat in [1, 2, END]:
            self.assert_lots((["a"], []), {"a": ([beat], [])}, None, 0, None)

    def test_the_least_list_of_fewest(self):
        web = (["a", "b", "c", "d"], [("a", "d", 2), ("b", "d", 1), ("c", "d", 1)])
        self.assert_lots(web, {"d": ([1], [])}, ["a", "b", "c", "d"], 12, ["b"])
        self.assert_lots(web, {"d": ([1, 2], [])}, ["a", "b", "c"], 3, ["a", "b"])

    def test_far(self):
        self.assert_lots(FAR, {"c": ([2 * END - 1], [])}, ["a", "c"], 2, ["a"])
        self.assert_lots(FAR, {"c": ([], [(END, 3 * END)])}, ["a", "b", "c"], 5, ["b"])
        self.assert_lots(FAR, {"b": ([END - 1, END], [])}, ["a", "c"], 1, ["a", "c"])
        self.assert_lots(FAR, {"b": ([10 ** 39], [])}, None, 0, None)

    def test_more_than_twelve(self):
        for web, record, many in [
            (LONG, {}, 13), (big_web(), {}, 60), (LONG, {"aa": ([], [(20, 30)])}, 13),
            (big_web(), {"fj": ([], [(1, 99)])}, 60),
        ]:
            self.assertEqual(len(may_begin(web, record)), many)
            self.assertIsNone(torn(web, record))
            for call in [lots_counted, least_lot]:
                self.assertEqual(self.assert_refused(TooMany, call, web, record).many, many)

    def test_just_twelve_of_more_folk(self):
        self.assert_lots(LONG, {"aa": ([], [(1, 1)])}, ["aa", *folk_of(13)[2:]], 4095, ["aa"])
        self.assert_lots(LONG, {"aa": ([12], [])}, [name for at, name in enumerate(folk_of(13)) if at % 2 or at == 12],
                         64, ["bc"])
        # No lot fits: nobody is too many.
        self.assert_lots(LONG, {"aa": ([13], [])}, None, 0, None)

    def test_as_all_lots_of_near_webs(self):
        chance = random.Random(503)
        for web in some_webs(501, 60, 5, 5):
            told = beats_by_lot(web)
            for _ in range(8):
                hidden = tuple(sorted(some_starters(chance.random(), web[0])))
                record = some_record(chance, told[hidden], web[0], chance.random() < 0.5)
                lots = [list(lot) for lot in told if fits(told[lot], record)]
                greatest = sorted(set(chain.from_iterable(lots))) or None
                least = min([(len(lot), lot) for lot in lots], default=(0, None))[1]
                self.assert_lots(web, record, greatest, len(lots), least)
                if greatest:
                    self.assertIn(greatest, lots)

    def test_stretched_webs(self):
        chance, by = random.Random(507), 111111111111
        for at, web in enumerate(some_webs(505, 40, 6, 5)):
            hidden = sorted(some_starters(at, web[0]))
            beats = {name: hearings(web, hidden, (name, name, 0)) for name in web[0]}
            for _ in range(5):
                record = some_record(chance, beats, web[0], chance.random() < 0.5)
                far = {}
                for name, (heard, still) in record.items():
                    stretches = [((first - 1) * by + 1, last * by) for first, last in still]
                    far[name] = ([beat * by for beat in heard], stretches)
                self.assert_lots(stretched(web, by), far, may_begin(web, record), lots_counted(web, record),
                                 least_lot(web, record))

    def test_a_hidden_lot_is_in_the_greatest_one(self):
        chance = random.Random(509)
        for at, web in enumerate(far_webs(511, 40) + [stretched(big_web(), 333333333333)]):
            hidden = some_starters(at, web[0])
            beats = {name: hearings(web, hidden, (name, name, 0)) for name in web[0]}
            record = {}
            for name in chance.sample(web[0], chance.randint(1, len(web[0]))):
                ends = [0, *beats[name], beats[name][-1] + END if beats[name] else END]
                still = [(one + 1, other - 1) for one, other in zip(ends, ends[1:]) if other > one + 1]
                record[name] = (beats[name], still)
            greatest = unchanged(self, may_begin, web, record)
            self.assertLessEqual(set(hidden), set(greatest))
            self.assertIsNone(torn(web, record))
            again = {name: hearings(web, greatest, (name, name, 0)) for name in web[0]}
            self.assertTrue(fits(again, record))
            for name in set(web[0]) - set(greatest):
                more = sorted([*greatest, name])
                self.assertFalse(fits({each: hearings(web, more, (each, each, 0)) for each in record}, record))
            if len(greatest) <= 12:
                self.assertGreater(lots_counted(web, record), 0)
                self.assertLessEqual(set(least_lot(web, record)), set(greatest))


class Papers(Case):
    def test_none_where_some_lot_fits(self):
        for record in [{}, {"a": ([2], [])}, {"d": ([5, 6], [])}]:
            self.assert_told(None, torn, WEB, record)

    def test_a_heard_beat_that_is_still(self):
        record = {"a": ([2], [(2, 2)])}
        self.assertIs(is_torn(ROW, record, ([("a", "a", 2), ("b", "a", 2)], ("a", 2))), True)
        self.assertIs(is_torn(ROW, record, ([("a", "a", 2), ("b", "a", 2)], None)), False)
        self.assertIs(is_torn(ROW, record, ([("a", "a", 2)], ("a", 2))), False)
        # Ahead of a's own bar, she has a shorter walk than the stretch's first beat.
        self.assertIs(is_torn(ROW, record, ([("b", "a", 2), ("a", "a", 2)], ("a", 2))), False)

    def test_a_bar_is_of_a_shorter_walk_of_the_beats_kind(self):
        # The even walks to c: of a 4, of b 6, of c 0, of d 10, of e and f none.
        for beat, struck in [(2, "c"), (4, "c"), (6, "ac"), (8, "abc"), (10, "abc"), (12, "abcd"),
                             (10 ** 39 * 2, "abcd")]:
            record = {"b": ([10 ** 30], []), "c": ([beat], [])}
            for name in "abcdef":
                self.assertIs(is_torn(WEB, record, ([(name, "c", beat)], ("b", 10 ** 30))), name in struck)

    def test_a_bar_is_of_a_beat_that_this_watcher_heard(self):
        record = {"c": ([12], []), "a": ([14], [])}
        self.assertIs(is_torn(WEB, record, ([("a", "c", 12), ("a", "a", 14)], ("c", 12))), False)
        for bar, good in [(("a", "c", 12), True), (("a", "a", 14), True), (("a", "c", 14), False),
                          (("a", "a", 12), False), (("a", "b", 12), False), (("a", "c", 10), False),
                          (("a", "c", 13), False)]:
            self.assertIs(is_torn(WEB, record, ([bar], ("c", 12))), good)

    def test_a_bar_of_a_stretch(self):
        record = {"a": ([9], [(2, 3)])}
        self.assertIs(is_torn(ROW, record, ([], ("a", 9))), True)
        self.assertIs(is_torn(ROW, record, ([("b", "a", 2)], ("a", 9))), False)
        self.assertIs(is_torn(ROW, record, ([("a", "a", 2), ("b", "a", 2)], ("a", 9))), False)
        # a has the walk of 0 beats: only when she is struck by another bar b's can be barred.
        also = {"a": ([9], [(2, 3)]), "b": ([4], [])}
        self.assertIs(is_torn(ROW, also, ([("a", "b", 4), ("b", "a", 2)], ("a", 9))), True)
        self.assertIs(is_torn(ROW, also, ([("b", "a", 2), ("a", "b", 4)], ("a", 9))), False)
        self.assertIs(is_torn(ROW, also, ([("a", "b", 4), ("b", "a", 3)], ("a", 9))), False)

    def test_some_stretch_is_one_in_which_the_beat_lies_and_ahead_of_which_nobody_is(self):
        web = (["a", "b", "c"], [("a", "b", 1), ("a", "c", 5)])
        for still, good in [([(5, 5)], False), ([(1, 5)], True), ([(2, 5)], False), ([(1, 4)], False),
                            ([(2, 5), (1, 9)], True), ([(1, 9), (5, 5)], True), ([(1, 1), (5, 5)], False)]:
            record = {"a": ([7], still)}
            self.assertIs(is_torn(web, record, ([("c", "a", 5)], ("a", 7))), good)
            self.assertIs(is_torn(web, {"a": ([7], still[::-1])}, ([("c", "a", 5)], ("a", 7))), good)

    def test_the_end(self):
        record = {"a": ([2, 4], []), "b": ([], [(2, 2)])}
        two = (["a", "b"], [("a", "b", 2)])
        bars = [("a", "a", 2), ("b", "a", 4)]
        for end, good in [(None, True), (("a", 2), True), (("a", 4), True), (("a", 3), False), (("b", 2), False),
                          (("c", 2), False), (("a", 2, 2), False), ((), False), (("a",), False), (0, False),
                          (("a", True), False), (["a", 2], True), ([], False), ("a2", False), (False, False)]:
            self.assertIs(is_torn(two, record, (bars, end)), good, end)
        self.assertIs(is_torn(two, record, ([], None)), False)
        self.assertIs(is_torn(two, record, (bars[:1], None)), False)
        self.assertIs(is_torn(two, record, (bars[1:], None)), False)
        self.assertIs(is_torn(two, record, ([], ("a", 4))), True)
        self.assertIs(is_torn(two, record, ([], ("a", 2))), False)
        self.assertIs(is_torn(two, record, (bars[:1], ("a", 2))), False)

    def test_a_bar_strikes_one_who_is_left(self):
        two = (["a", "b"], [("a", "b", 2)])
        record = {"a": ([2, 4], [])}
        bars = [("a", "a", 2), ("b", "a", 4)]
        self.assertIs(is_torn(two, record, (bars, None)), True)
        for wrong in [bars + bars[:1], [bars[0], bars[0], bars[1]], bars + [("c", "a", 4)], bars + [("a", "a", 4)]]:
            self.assertIs(is_torn(two, record, (wrong, None)), False)
            self.assertIs(is_torn(two, record, (wrong, ("a", 2))), False)

    def test_lists_and_tuples_stand_for_one_another(self):
        record = {"a": ([9], [(2, 3)]), "b": ([4], [])}
        paper = ([("a", "b", 4), ("b", "a", 2)], ("a", 9))
        for one in [record, listed(record), tupled(record)]:
            for other in [paper, listed(paper), tupled(paper)]:
                self.assertIs(unchanged(self, is_torn, ROW, one, other), True)

    def test_odd_things(self):
        record = {"a": ([9], [(2, 3)]), "b": ([4], [])}
        bars = [("a", "b", 4), ("b", "a", 2)]
        for thing in [*ODD_THINGS, ANY, (ANY, ANY), ([ANY], ("a", 9)), ([], ANY)]:
            self.assertIs(is_torn(ROW, record, thing), False)
            self.assertIs(is_torn(ROW, record, (thing, ("c", 1))), False)
            self.assertIs(is_torn(ROW, record, ([*bars, thing], ("a", 9))), False)
            self.assertIs(is_torn(ROW, record, (bars, thing)), False)
            for at in range(3):
                wrong = [*bars[0][:at], thing, *bars[0][at + 1:]]
                self.assertIs(is_torn(ROW, record, ([wrong, bars[1]], ("a", 9))), False)
            self.assertIs(is_torn(ROW, record, (bars, (thing, 9))), thing == "a" and thing is not ANY)
            self.assertIs(is_torn(ROW, record, (bars, ("a", thing))), False)
        for thing in [(bars,), (bars, ("a", 9), None), {0: bars, 1: ("a", 9)}, (bars, ("a", 9), [])]:
            self.assertIs(is_torn(ROW, record, thing), False)

    def test_a_truth_is_no_beat(self):
        web = (["a", "b"], [("a", "b", 1)])
        record = {"a": ([1, 2], [(1, 1)])}
        self.assertIs(is_torn(web, record, ([("b", "a", 1)], ("a", 1))), True)
        self.assertIs(is_torn(web, record, ([("b", "a", True)], ("a", 1))), False)
        self.assertIs(is_torn(web, record, ([("b", "a", 1)], ("a", True))), False)

    def test_told_papers_with_a_bar_less_another_order_another_end(self):
        chance = random.Random(513)
        found = 0
        for at, web in enumerate(some_webs(515, 120, 6, 5)):
            least = near_least(web)
            hidden = some_starters(at, web[0])
            beats = {name: hearings(web, hidden, (name, name, 0)) for name in web[0]}
            for _ in range(6):
                record = some_record(chance, beats, web[0], False)
                paper = torn(web, record)
                if paper:
                    found += 1
                    for other in self.papers_beside(chance, web, record, paper):
                        self.assertIs(is_torn(web, record, other), slow_is_torn(least, web[0], record, other))
        self.assertGreater(found, 60)

    def papers_beside(self, chance, web, record, paper):
        """The paper itself and others that differ from it."""
        bars, end = paper
        ends = [None, *[(name, beat) for name in record for beat in record[name][0] + [1, 2, 3]]]
        found = [(bars, other) for other in ends]
        found.extend([(bars[:at] + bars[at + 1:], other) for at in range(len(bars)) for other in (end, None)])
        found.extend([(list(order), end) for order in list(permutations(bars[:4]))[1:]])
        for _ in range(20):
            bar = (chance.choice(web[0]), chance.choice(sorted(record)), chance.randint(1, 12))
            at = chance.randint(0, len(bars))
            found.extend([(bars[:at] + [bar] + bars[at:], end), (bars[:at] + [bar] + bars[at + 1:], end)])
        return [(bars, end), *found]

    def test_papers_of_far_webs(self):
        chance, torn_ones = random.Random(517), 0
        for at, web in enumerate(far_webs(519, 60)):
            least = far_least(web)
            beats = {name: hearings(web, some_starters(at, web[0]), (name, name, 0)) for name in web[0]}
            record = {}
            for name in web[0]:
                if beats[name] and chance.random() < 0.7:
                    still = [(1, chance.choice(beats[name]))] if chance.random() < 0.2 else []
                    record[name] = (beats[name][:chance.randint(0, 2)], still)
            paper = unchanged(self, torn, web, record)
            self.assertEqual(paper is None, may_begin(web, record) is not None)
            if paper:
                torn_ones += 1
                self.assert_paper(web, record, paper)
                for other in [paper, (paper[0][1:], paper[1]), (paper[0][::-1], paper[1]), (paper[0], None)]:
                    self.assertIs(is_torn(web, record, other), slow_is_torn(least, web[0], record, other))
        self.assertGreater(torn_ones, 15)

    def test_the_same_by_a_dict_filled_in_another_order(self):
        chance = random.Random(521)
        for at, web in enumerate(some_webs(523, 60, 6, 5)):
            beats = {name: hearings(web, some_starters(at, web[0]), (name, name, 0)) for name in web[0]}
            record = some_record(chance, beats, web[0], False)
            other = {name: record[name] for name in reversed(record)}
            for call in [torn, may_begin, lots_counted, least_lot]:
                self.assertEqual(call(web, record), call(web, other))
                self.assertEqual(call(web, record), call(web, tupled(record)))


class Refusals(Case):
    CALLS = [may_begin, lots_counted, least_lot, torn, is_torn]

    def assert_record_refused(self, error, call, web, record):
        self.assert_refused(error, call, *[web, record, ([], None)][:3 if call is is_torn else 2])

    def test_no_record(self):
        odd = [thing for thing in ODD_THINGS if thing != {} or not isinstance(thing, dict)]
        others = [{"z": ([], [])}, {"a": ([], []), "z": ([], [])}, {"ab": ([1], [])}]
        for call in self.CALLS:
            for record in NO_RECORDS + odd + others:
                self.assert_record_refused(NoRecord, call, WEB, record)

    def test_no_web_goes_ahead(self):
        for call in self.CALLS:
            for record in [{}, None, {"a": ([2], [])}, {"z": 1}]:
                self.assert_record_refused(NoWeb, call, (["a", "a"], []), record)

    def test_no_record_goes_ahead_of_too_many(self):
        for call in [lots_counted, least_lot]:
            self.assert_record_refused(NoRecord, call, LONG, {"aa": ([0], [])})
            self.assert_record_refused(TooMany, call, LONG, {"aa": ([], [])})

    def test_records_that_are_such(self):
        for record in [{"a": ([], [])}, {"a": [[], []]}, {"a": ((1, 2), ((1, 1), [2, 3]))}, {"a": ([10 ** 39], [])},
                       {"a": ([], [(1, 10 ** 39)])}, {"a": ([], [(3, 4), (1, 2), (3, 4)])}, {}]:
            for call in self.CALLS[:4]:
                unchanged(self, call, WEB, record)
            unchanged(self, is_torn, WEB, record, ([], None))


class Whole(Case):
    def test_beats_at_which_nobody_hears_by_any_lot(self):
        for web in some_webs(525, 30, 5, 5):
            told = beats_by_lot(web)
            last = max([beat for beats in told.values() for beat in chain.from_iterable(beats.values())], default=0)
            for name in web[0]:
                self.assertIsNone(may_begin(web, {name: ([last + 1], [])}))
                self.assertIsNone(may_begin(web, {name: ([1, 3], [])}))
                self.assertEqual(may_begin(web, {name: ([], [(last + 1, last + END)])}), web[0])
