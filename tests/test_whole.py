"""The promise of the whole, as far as near webs show it [1, 4]."""

import unittest

from elsetold.beats import beat_by_beat, hearers_at
from elsetold.webs import neighbours, odd_round, parts
from tests.support import beside, edges_of, hearings_of, some_starters, some_webs, walk_lengths


def nights(seed, many):
    """So many webs with starters and their nights."""
    told = []
    for at, web in enumerate(some_webs(seed, many, 8, 6)):
        starters = some_starters(seed + at, web[0])
        told.append((web, starters, beat_by_beat(web, starters)))
    return told


class Whole(unittest.TestCase):
    def test_all_hear_just_at_the_least_walks_of_each_kind(self):
        for web, starters, night in nights(53, 150):
            least = walk_lengths(web, starters)
            self.assertEqual(hearings_of(night), {(place, beats) for (place, _), beats in least.items() if beats})
            self.assertEqual(len(night), max(least.values()))

    def test_nobody_hears_at_an_even_beat_who_began(self):
        for web, starters, night in nights(59, 60):
            for name in starters:
                heard = [beat for place, beat in hearings_of(night) if place == (name, name, 0)]
                self.assertTrue(all([beat % 2 for beat in heard]))
                self.assertLessEqual(len(heard), 1)

    def test_each_beat_of_each_way_is_gone_twice_or_once_or_never(self):
        for web, starters, night in nights(61, 150):
            gone = {edge: 0 for edge in edges_of(web)}
            for tellings in night:
                for one, other in tellings:
                    gone[(one, other) if (one, other) in gone else (other, one)] += 1
            for part in parts(web):
                begun = [name for name in starters if name in part]
                least = walk_lengths(web, begun)
                odd = any([((name, name, 0), 1) in least for name in begun])
                wanted = (2 if odd else 1) if begun else 0
                for edge, many in gone.items():
                    if edge[0][0] in part:
                        self.assertEqual(many, wanted)

    def test_one_way_more_makes_no_hearing_of_its_kind_later(self):
        for web, starters, night in nights(67, 60):
            if web[1]:
                fewer = (web[0], web[1][1:])
                now = {(place, beat % 2): beat for place, beat in hearings_of(night)}
                for place, beat in hearings_of(beat_by_beat(fewer, starters)):
                    self.assertLessEqual(now[(place, beat % 2)], beat)

    def test_the_files_tell_the_same_of_a_web(self):
        for web, starters, night in nights(71, 40):
            for beat in range(len(night) + 2):
                heard = sorted([place for place, at in hearings_of(night) if at == beat])
                self.assertEqual(hearers_at(web, starters, beat), heard)
            for tellings in night:
                for one, other in tellings:
                    self.assertIn(other, neighbours(web, one))
            if odd_round(web) is None:
                for name in web[0]:
                    alone = beat_by_beat(web, [name])
                    self.assertEqual(sum([len(tellings) for tellings in alone]), self.beats_in_part(web, name))

    def beats_in_part(self, web, name):
        part = [part for part in parts(web) if name in part][0]
        return sum([beats for one, _, beats in web[1] if one in part])

    def test_the_same_asked_again_is_told_the_same(self):
        for web, starters, night in nights(73, 20):
            self.assertEqual(beat_by_beat(web, starters), night)
            self.assertEqual(beat_by_beat(web, starters[::-1]), night)
            self.assertEqual([neighbours(web, place) for place in beside(web)],
                             [sorted(near) for near in beside(web).values()])
