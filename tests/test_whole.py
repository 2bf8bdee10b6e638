"""The promise of the whole, by near webs' nights and by what is told however far [1, 4]."""

import random
import unittest

from elsetold.beats import beat_by_beat, hearers_at
from elsetold.choosing import best_two, latest, soonest
from elsetold.counts import dying, how_many_hear, last_beat, loudest, tellings, tellings_by
from elsetold.desk import Desk
from elsetold.lots import alike_from, gone_twice, told_apart, whose
from elsetold.nights import Night
from elsetold.papers import all_reaches, are_bounds, is_walk, shows_not_sooner, walk_to
from elsetold.reaches import heard_of, hearings, reaches, tells, told_at
from elsetold.texts import read_record, show_record, show_web
from elsetold.underway import next_tellings, round_of
from elsetold.watchers import is_torn, least_lot, lots_counted, may_begin, torn
from elsetold.ways import in_all_odd_rounds, needless, with_way, without_way
from elsetold.webs import neighbours, odd_round, parts
from tests.support import (beside, edges_of, far_level, far_webs, hearings_of, least_far_walks, places_of,
                           some_starters, some_webs, walk_lengths)


def nights(seed, many):
    """So many webs with starters and their nights."""
    told = []
    for at, web in enumerate(some_webs(seed, many, 8, 6)):
        starters = some_starters(seed + at, web[0])
        told.append((web, starters, beat_by_beat(web, starters)))
    return told


class Whole(unittest.TestCase):
    def test_all_hear_just_at_the_least_walks_of_each_kind(self):
        for web, starters, night in nights(53, 150):
            least = walk_lengths(web, starters)
            self.assertEqual(hearings_of(night), {(place, beats) for (place, _), beats in least.items() if beats})
            self.assertEqual(len(night), max(least.values()))

    def test_nobody_hears_at_an_even_beat_who_began(self):
        for web, starters, night in nights(59, 60):
            for name in starters:
                heard = [beat for place, beat in hearings_of(night) if place == (name, name, 0)]
                self.assertTrue(all([beat % 2 for beat in heard]))
                self.assertLessEqual(len(heard), 1)

    def test_each_beat_of_each_way_is_gone_twice_or_once_or_never(self):
        for web, starters, night in nights(61, 150):
            gone = {edge: 0 for edge in edges_of(web)}
            for tellings in night:
                for one, other in tellings:
                    gone[(one, other) if (one, other) in gone else (other, one)] += 1
            for part in parts(web):
                begun = [name for name in starters if name in part]
                least = walk_lengths(web, begun)
                odd = any([((name, name, 0), 1) in least for name in begun])
                wanted = (2 if odd else 1) if begun else 0
                for edge, many in gone.items():
                    if edge[0][0] in part:
                        self.assertEqual(many, wanted)

    def test_one_way_more_makes_no_hearing_of_its_kind_later(self):
        for web, starters, night in nights(67, 60):
            if web[1]:
                fewer = (web[0], web[1][1:])
                now = {(place, beat % 2): beat for place, beat in hearings_of(night)}
                for place, beat in hearings_of(beat_by_beat(fewer, starters)):
                    self.assertLessEqual(now[(place, beat % 2)], beat)

    def test_the_files_tell_the_same_of_a_web(self):
        for web, starters, night in nights(71, 40):
            for beat in range(len(night) + 2):
                heard = sorted([place for place, at in hearings_of(night) if at == beat])
                self.assertEqual(hearers_at(web, starters, beat), heard)
            for tellings in night:
                for one, other in tellings:
                    self.assertIn(other, neighbours(web, one))
            if odd_round(web) is None:
                for name in web[0]:
                    alone = beat_by_beat(web, [name])
                    self.assertEqual(sum([len(tellings) for tellings in alone]), self.beats_in_part(web, name))

    def beats_in_part(self, web, name):
        part = [part for part in parts(web) if name in part][0]
        return sum([beats for one, _, beats in web[1] if one in part])

    def test_the_same_asked_again_is_told_the_same(self):
        for web, starters, night in nights(73, 20):
            self.assertEqual(beat_by_beat(web, starters), night)
            self.assertEqual(beat_by_beat(web, starters[::-1]), night)
            self.assertEqual([neighbours(web, place) for place in beside(web)],
                             [sorted(near) for near in beside(web).values()])


def far_lots(seed, many):
    """So many webs of ways of all lengths, with starters."""
    return [(web, some_starters(seed + at, web[0])) for at, web in enumerate(far_webs(seed, many))]


class HoweverFar(unittest.TestCase):
    def test_a_near_web_is_told_the_same_by_the_night_and_ahead(self):
        for web, starters, night in nights(79, 60):
            heard, least = hearings_of(night), walk_lengths(web, starters)
            for place in beside(web):
                self.assertEqual(reaches(web, starters, place), (least.get((place, 0)), least.get((place, 1))))
                self.assertEqual(hearings(web, starters, place), sorted([at for here, at in heard if here == place]))
            self.assertEqual(last_beat(web, starters), len(night))
            self.assertEqual(tellings(web, starters), sum([len(each) for each in night]))
            for beat, each in enumerate(night):
                self.assertEqual(each, sorted([(one, other) for one in beside(web)
                                               for other in tells(web, starters, one, beat)]))
                self.assertEqual(each, sorted([(one, other) for other in beside(web)
                                               for one in heard_of(web, starters, other, beat + 1)]))
                self.assertEqual(each, sorted([(one, other) for one, near in beside(web).items() for other in near
                                               if beat in told_at(web, starters, one, other)]))

    def test_everybody_hears_at_most_twice_at_the_least_beats_of_each_kind(self):
        for web, starters in far_lots(83, 30):
            least = least_far_walks(web, starters)
            for place in places_of(web):
                heard = hearings(web, starters, place)
                self.assertLessEqual(len(heard), 2)
                self.assertEqual(len({beat % 2 for beat in heard}), len(heard))
                for beat in heard:
                    self.assertEqual(beat, far_level(web, least, place, beat % 2))
                if place[0] in starters and place[0] == place[1]:
                    self.assertTrue(all([beat % 2 for beat in heard]))

    def test_each_beat_of_each_way_is_gone_twice_or_once_or_never(self):
        for web, starters in far_lots(89, 60):
            twice = gone_twice(web, starters)
            whole = 0
            for part in parts(web):
                beats = sum([way[2] for way in web[1] if way[0] in part])
                begun = set(starters) & set(part)
                least = least_far_walks(web, sorted(begun))
                odd = any([(name, 1) in least for name in begun])
                self.assertEqual(part in twice, odd)
                whole += beats * 2 if odd else beats if begun else 0
            self.assertEqual(tellings(web, starters), whole)
            last = last_beat(web, starters)
            self.assertEqual(tellings_by(web, starters, last), whole)
            if last:
                # The last tellings are made a beat ahead of the last hearing.
                self.assertEqual(tellings_by(web, starters, last - 1), whole)
            if last > 1:
                self.assertLess(tellings_by(web, starters, last - 2), whole)

    def test_the_last_hearing_is_the_greatest_of_the_least_numbers(self):
        for web, starters in far_lots(97, 40):
            least = least_far_walks(web, starters)
            levels = [far_level(web, least, place, kind) or 0 for place in places_of(web) for kind in (0, 1)]
            last = last_beat(web, starters)
            self.assertLessEqual(max(levels), last)
            self.assertEqual(how_many_hear(web, starters, last) > 0, last > 0)
            self.assertEqual(how_many_hear(web, starters, last + 1), 0)
            found = dying(web, starters)
            self.assertEqual(max([beat for beat, _ in found], default=0), last)
            for beat, place in found:
                self.assertEqual(far_level(web, least, place, beat % 2), beat)
                self.assertEqual(heard_of(web, starters, place, beat), neighbours(web, place))

    def test_one_way_more_makes_no_hearing_of_its_kind_later(self):
        for web, starters in far_lots(101, 40):
            now = all_reaches(web, starters)
            for at in range(len(web[1])):
                fewer = (web[0], web[1][:at] + web[1][at + 1:])
                for name, pair in all_reaches(fewer, starters).items():
                    for kind in (0, 1):
                        if pair[kind] is not None:
                            self.assertLessEqual(now[name][kind], pair[kind])
                # What no reach is less than in the whole web none is less than with a way less, either.
                self.assertIs(are_bounds(fewer, starters, now), True)

    def test_the_papers_show_just_what_is_told(self):
        for web, starters in far_lots(103, 15):
            paper = all_reaches(web, starters)
            for place in places_of(web)[::2]:
                for kind, beat in enumerate(reaches(web, starters, place)):
                    names = walk_to(web, starters, place, kind)
                    self.assertEqual(names is None, beat is None)
                    if beat is not None:
                        self.assertIs(is_walk(web, starters, place, beat, names), True)
                        self.assertIs(shows_not_sooner(web, starters, place, beat, paper), True)
                        self.assertIs(shows_not_sooner(web, starters, place, beat + 2, paper), False)
                        self.assertIn(names[0], whose(web, starters, place, beat))

    def test_all_of_two_lots_together_hear_at_the_lesser_of_both(self):
        for at, (web, starters) in enumerate(far_lots(107, 30)):
            others = some_starters(at, web[0])
            both = all_reaches(web, sorted(set(starters) | set(others)))
            one, other = all_reaches(web, starters), all_reaches(web, others)
            for name, pair in both.items():
                for kind in (0, 1):
                    found = [beat for beat in (one[name][kind], other[name][kind]) if beat is not None]
                    self.assertEqual(pair[kind], min(found, default=None))
            last = max(last_beat(web, starters), last_beat(web, others))
            self.assertLessEqual(alike_from(web, starters, others), last + 1)
            least = told_apart(web, starters, others)
            if least:
                beat, name = least
                self.assertNotEqual(beat in one[name], beat in other[name])
                self.assertLess(beat, alike_from(web, starters, others))

    def test_the_loudest_beat_is_the_first_of_its_kind(self):
        for web, starters in far_lots(109, 40):
            many, beat = loudest(web, starters)
            self.assertEqual(how_many_hear(web, starters, beat), many)
            if beat:
                self.assertLess(how_many_hear(web, starters, beat - 1), many)
            for now in [1, 2, beat + 1, beat + 2, last_beat(web, starters)]:
                self.assertLessEqual(how_many_hear(web, starters, now), many)


class AllTogether(unittest.TestCase):
    """A cry of a Night, and what all other files tell of it."""

    def lives(self, seed, many):
        """So many tuples (web, starters, night, now): one cry in a Night, at some beat behind its beginning."""
        chance, told = random.Random(seed), []
        for at, web in enumerate(far_webs(seed, many) + some_webs(seed, many, 8, 6)):
            starters = some_starters(at, web[0])
            night = Night(web)
            night.begin("hey", starters)
            now = chance.choice([0, 1, 2, last_beat(web, starters), last_beat(web, starters) // 2 + 1, 10 ** 30])
            night.go_on(now)
            told.append((web, starters, night, now))
        return told

    def test_a_record_of_a_night_is_of_a_lot_that_may_have_begun(self):
        for web, starters, night, now in self.lives(113, 25):
            record = {}
            for name in web[0]:
                heard = night.heard_at("hey", (name, name, 0))
                ends = [0, *heard, now + 1]
                record[name] = (heard, [(one + 1, other - 1) for one, other in zip(ends, ends[1:]) if one + 1 < other])
            greatest = may_begin(web, record)
            self.assertLessEqual(set(starters), set(greatest))
            self.assertIsNone(torn(web, record))
            self.assertEqual(record, read_record(show_record(record)))
            # By all of these together just the same is heard till now.
            other = Night(web)
            other.begin("hey", greatest)
            other.go_on(now)
            for name in web[0]:
                self.assertEqual(other.heard_at("hey", (name, name, 0)), record[name][0])
            if len(greatest) <= 12:
                self.assertGreaterEqual(2 ** len(greatest) - 1, lots_counted(web, record))
                self.assertLessEqual(len(least_lot(web, record)), len(starters))

    def test_a_record_with_one_beat_wrong_is_torn_or_of_another_lot(self):
        for web, starters, night, now in self.lives(127, 25):
            for name in web[0]:
                heard = night.heard_at("hey", (name, name, 0))
                if heard:
                    record = {name: (heard, [(heard[0], heard[0])])}
                    self.assertIsNone(may_begin(web, record))
                    bars, end = torn(web, record)
                    self.assertIs(is_torn(web, record, (bars, end)), True)
                    self.assertIs(is_torn(web, {name: (heard, [])}, (bars, end)), False)
                    still = {name: ([], [(heard[0], heard[0])])}
                    self.assertFalse(set(starters) == set(may_begin(web, still) or []))

    def test_the_night_and_a_web_asked_alone(self):
        for web, starters, night, now in self.lives(131, 20):
            self.assertEqual(night.told("hey"), tellings_by(web, starters, now))
            self.assertEqual(night.last_of("hey"), last_beat(web, starters))
            hear = [place for place in places_of(web) if "hey" in night.cries_heard(place)]
            self.assertLessEqual(len(hear), how_many_hear(web, starters, now))
            for place in places_of(web)[::3]:
                even, odd = reaches(web, starters, place)
                beats = sorted([beat for beat in (even, odd) if beat is not None and 0 < beat <= now])
                self.assertEqual(night.heard_at("hey", place), beats)

    def test_the_desk_and_the_night(self):
        for web, starters, night, now in self.lives(137, 15):
            desk = Desk()
            for row in ["web\n" + show_web(web), "begin hey " + " ".join(starters), f"on {now}"]:
                self.assertEqual(desk.say(row), "ok")
            self.assertEqual([desk.say("told hey"), desk.say("last hey")],
                             [str(night.told("hey")), str(night.last_of("hey"))])
            self.assertEqual(desk.say("quiet"), "hey" if night.quiet_cries() else "none")
            for name in web[0]:
                beats = [str(beat) for beat in hearings(web, starters, (name, name, 0)) if beat <= now]
                self.assertEqual(desk.say(f"heard hey {name}"), " ".join(beats) or "never")

    def test_who_should_begin_does_so_in_a_night(self):
        for web in far_webs(139, 20) + some_webs(139, 20, 7, 6):
            for beat, names in [soonest(web), latest(web)]:
                for name in names:
                    night = Night(web)
                    night.begin("hey", [name])
                    self.assertEqual(night.last_of("hey"), beat)
            told = best_two(web)
            if told:
                night = Night(web)
                night.begin("hey", told[1:])
                self.assertEqual(night.last_of("hey"), told[0])
                night.go_on(told[0])
                for name in set(web[0]) - set(told[1:]):
                    self.assertTrue(night.heard_at("hey", (name, name, 0)))

    def test_a_needless_way_lost_changes_no_hearing_of_the_folk(self):
        for web in far_webs(149, 15) + some_webs(149, 25, 7, 6):
            starters = some_starters(len(web[1]), web[0])
            for one, other, beats in web[1]:
                night = Night(web)
                night.lose(other, one)
                night.begin("hey", starters)
                night.go_on(10 ** 30)
                less = without_way(web, one, other)
                self.assertEqual([night.web_now(), night.told("hey")], [less, tellings(less, starters)])
                same = all([night.heard_at("hey", (name, name, 0)) == hearings(web, starters, (name, name, 0))
                            for name in web[0]])
                self.assertEqual(same, (one, other, beats) in needless(web, starters))
                self.assertEqual(odd_round(web) is not None and odd_round(less) is None,
                                 (one, other, beats) in (in_all_odd_rounds(web) or []))
                again = with_way(less, one, other, beats)
                self.assertEqual(all_reaches(again, starters), all_reaches(web, starters))

    def test_tellings_under_way_are_those_of_the_night(self):
        for web, starters, night in nights(151, 40):
            live = Night(web)
            live.begin("hey", starters)
            made = 0
            for beat, said in enumerate(night + [[]]):
                made += len(said)
                self.assertEqual(live.told("hey"), made)
                self.assertEqual(live.quiet_cries(), [] if said else ["hey"])
                self.assertEqual(round_of(web, said), (len(night) - beat, 1))
                later = (night + [[], []])[beat + 1]
                self.assertEqual(next_tellings(web, said), later)
                live.go_on(1)
                hear = sorted({other for _, other in said})
                self.assertEqual([place for place in sorted(beside(web)) if live.cries_heard(place)], hear)
