"""What the tests share: odd things, webs, and slow answers straight from the document's words."""

import random
import unittest
from itertools import chain, combinations, product
from unittest.mock import ANY


def deep(many):
    """A list within a list, so many within one another."""
    thing = []
    for _ in range(many - 1):
        thing = [thing]
    return thing


ODD_THINGS = [
    None, True, False, 0, 1, 2, -1, 10 ** 12 + 1, 10 ** 50, "", "ann", "ann bob", "\n", "\u00e4", b"ann", [], (), {},
    set(), {1}, frozenset(["ann"]), {"ann": "bob"}, [None], (None,), [[]], [[], []], ([], ()), ["ann", []], [1, 2],
    (1, 2, 3), ["ann", "bob", 1, 2], ("ann", "bob", True), ("ann", "ann", None), [{}, {}, {}], [["ann"], "ann", 1],
    object(), object, len, int, ValueError, ValueError("x"), range(3), iter([]), lambda: 1, slice(1), Ellipsis,
    NotImplemented, bytearray(2), deep(20), (deep(19), 1),
]

# Three in a round of ways, one beyond, one by herself.
WEB = (["ann", "bob", "cat", "dan", "eve"], [("ann", "bob", 1), ("ann", "cat", 3), ("bob", "cat", 2), ("cat", "dan", 1)])
FOLK, END = WEB[0], 10 ** 12
# None of these is what its name says, of this web and of others with these folk and ways.
NO_BEATS = [-1, -END, -10 ** 39, True, False, None, "0", "3", b"3", [3], (3,), {}, {3}, {3: 3}]
NO_STARTERS = [[], (), ["ann", "ann"], ["fay"], ["ann", "fay"], ["ann", None], "ann", {"ann": 1}, {"ann"}, None, True,
               [["ann"]], [("ann", "ann", 0)], ANY, [ANY]]
NO_PLACES = [("ann", "ann", 1), ("ann", "ann", False), ("fay", "fay", 0), ("ann", "cat", 0), ("ann", "cat", 3),
             ("cat", "ann", 1), ("ann", "bob", 1), ("ann", "dan", 1), ("ann", "cat", True), ("ann", "cat", -1),
             ("ann", "cat", None), ("ann", "ann"), ("ann",), "ann", (), [], None, 0, True, {}, ("ann", "ann", 0, 0),
             (["ann"], ["ann"], 0), ANY, (ANY, ANY, 0), ("ann", "cat", ANY)]
NO_WEBS = [None, [], (), "web", FOLK, (FOLK,), (FOLK, None), ([], []), (FOLK, [("ann", "bob", 0)]), (FOLK, [], []),
           (FOLK, [("ann", "bob", END + 1)]), {0: FOLK, 1: []}, ANY]
# None is a record of any folk.
NO_RECORDS = [
    None, [], (), "a", ["a"], {"a": []}, {"a": None}, {"a": ([],)},
    {"a": ([], [], [])}, {"a": ({}, [])}, {"a": ([], {})}, {"a": ("", "")}, {"a": ([0], [])}, {"a": ([-1], [])},
    {"a": ([2, 1], [])}, {"a": ([2, 2], [])}, {"a": ([True], [])}, {"a": ([1, True], [])}, {"a": (["1"], [])},
    {"a": ([None], [])}, {"a": (1, [])}, {"a": ([], 1)}, {"a": ([], [1, 2])}, {"a": ([], [(1,)])},
    {"a": ([], [(1, 2, 3)])}, {"a": ([], [(0, 2)])}, {"a": ([], [(0, 0)])}, {"a": ([], [(3, 2)])},
    {"a": ([], [(-1, 2)])}, {"a": ([], [(True, 2)])}, {"a": ([], [(1, True)])}, {"a": ([], [(1, None)])},
    {"a": ([], [(1, 2), (4, 3)])}, {"a": ([], [["1", 2]])}, {"a": {0: [], 1: []}}, {1: ([], [])}, {True: ([], [])},
    {None: ([], [])}, {("a",): ([], [])}, {"A": ([], [])}, {"": ([], [])}, {b"a": ([], [])}, {("a", "a", 0): ([], [])},
    {"a": ([], []), "b": None}, ANY, {"a": ANY}, {"a": (ANY, [])}, {"a": ([ANY], [])}, {"a": ([], [ANY])},
    {"a": ([], [(1, ANY)])},
]


def listed(thing):
    """The same with lists in place of all tuples."""
    if isinstance(thing, dict):
        return {key: listed(value) for key, value in thing.items()}
    return [listed(part) for part in thing] if isinstance(thing, (list, tuple)) else thing


def tupled(thing):
    """The same with tuples in place of all lists."""
    if isinstance(thing, dict):
        return {key: tupled(value) for key, value in thing.items()}
    return tuple([tupled(part) for part in thing]) if isinstance(thing, (list, tuple)) else thing


def folk_of(many):
    """So many unlike names, rising."""
    letters = "abcdefghij"
    return [letters[number // 10] + letters[number % 10] for number in range(many)]


def web_of(folk, lengths):
    """The web of these folk, and a way for each pair that has beats in the dict."""
    return list(folk), [(one, other, lengths[(one, other)]) for one, other in sorted(lengths)]


def some_webs(seed, many, most_folk, most_beats):
    """So many webs, always the same ones."""
    chance = random.Random(seed)
    webs = []
    for _ in range(many):
        folk = folk_of(chance.randint(1, most_folk))
        thick = chance.random()
        pairs = [pair for pair in combinations(folk, 2) if chance.random() < thick]
        webs.append(web_of(folk, {pair: chance.randint(1, most_beats) for pair in pairs}))
    return webs


def some_starters(seed, folk):
    """Some of the folk, one at least, in some order."""
    chance = random.Random(seed)
    return chance.sample(folk, chance.randint(1, len(folk)))


def edges_of(web):
    """Each single beat of each way, as a tuple of its two places."""
    edges = []
    for one, other, beats in web[1]:
        row = [(one, one, 0)] + [(one, other, k) for k in range(1, beats)] + [(other, other, 0)]
        edges.extend([(row[k], row[k + 1]) for k in range(beats)])
    return edges


def beside(web):
    """All places, each with the set of its neighbours."""
    near = {(name, name, 0): set() for name in web[0]}
    for here, there in edges_of(web):
        near.setdefault(here, set()).add(there)
        near.setdefault(there, set()).add(here)
    return near


def slow_night(web, starters):
    """The night by the words of point 8, one person or spot after another."""
    near = beside(web)
    told_by = {place: set() for place in near}
    tellers = {(name, name, 0) for name in starters}
    night = []
    while True:
        tellings = []
        for here in near:
            if here in tellers:
                tellings.extend([(here, there) for there in near[here] - told_by[here]])
        if not tellings:
            return night
        night.append(sorted(tellings))
        told_by = {place: {one for one, other in tellings if other == place} for place in near}
        tellers = {place for place in near if told_by[place]}


def walk_lengths(web, starters):
    """The least number of beats of a walk from a starter to (place, kind), a beat at a time."""
    near = beside(web)
    least = {}
    at = {(name, name, 0) for name in starters}
    for beats in range(2 * len(near) + 2):
        for place in at:
            least.setdefault((place, beats % 2), beats)
        at = {there for place in at for there in near[place]}
    return least


def hearings_of(night):
    """All (place, beat) of a night at which the place hears."""
    return {(other, beat + 1) for beat, tellings in enumerate(night) for _, other in tellings}


def picture(thing):
    """What a thing is and holds, kinds too, to be set beside what it is later."""
    if isinstance(thing, (list, tuple)):
        return thing.__class__, [picture(part) for part in thing]
    if isinstance(thing, dict):
        return dict, [(key, picture(value)) for key, value in thing.items()]
    return thing.__class__, set(thing) if isinstance(thing, set) else thing


def unchanged(case, call, *handed):
    """Assert that a call, told or refused, leaves all that was handed in as it was; give what it told."""
    before = picture(handed)
    try:
        return call(*handed)
    finally:
        case.assertEqual(before, picture(handed))


def spoil(thing):
    """Change a thing, and whatever is within it, as far as it can be changed."""
    if isinstance(thing, (list, tuple)):
        for part in thing:
            spoil(part)
    if isinstance(thing, dict):
        for part in thing.values():
            spoil(part)
        thing["ann"] = thing["zoe"] = "spoilt"
    if isinstance(thing, list):
        thing.reverse()
        thing.append("spoilt")


class SlowTold:
    """All that a near web's night tells, by the words of points 4 and 8 alone."""

    def __init__(self, web, starters):
        self.near = beside(web)
        self.starters = sorted(starters)
        self.night = slow_night(web, starters)
        self.least = walk_lengths(web, starters)
        self.heard_of = {place: {} for place in self.near}
        self.tells = {place: {} for place in self.near}
        for beat, tellings in enumerate(self.night):
            for one, other in tellings:
                self.heard_of[other].setdefault(beat + 1, []).append(one)
                self.tells[one].setdefault(beat, []).append(other)

    def reaches(self, place):
        return self.least.get((place, 0)), self.least.get((place, 1))

    def hearers(self, beat):
        return sorted([place for place in self.near if beat in self.heard_of[place]])

    def dying(self):
        return sorted([(beat, place) for place in self.near for beat in self.heard_of[place]
                       if not self.tells[place].get(beat)])

    def loudest(self):
        found = [(len(self.hearers(beat)), -beat) for beat in range(1, len(self.night) + 1)]
        many, beat = max(found, default=(0, 0))
        return many, -beat


def stretched(web, by):
    """The web with each way so many times as long."""
    return list(web[0]), [(one, other, beats * by) for one, other, beats in web[1]]


def stretched_place(place, by):
    """The place of a stretched web that lies where this one lay."""
    return (place[0], place[1], place[2] * by)


def far_webs(seed, many):
    """So many webs with ways from 1 to 10 ** 12 beats, short and long ones side by side."""
    chance = random.Random(seed)
    webs = []
    for folk, ways in some_webs(seed, many, 12, 9):
        ways = [(one, other, chance.choice([beats, chance.randint(1, 10 ** 12), 10 ** 12 - beats + 1]))
                for one, other, beats in ways]
        webs.append((folk, ways))
    return webs


def big_web():
    """Sixty folk and a hundred and fifty ways of one to three beats, in two parts and with somebody alone."""
    folk = folk_of(60)
    pairs = [(at, at + 1) for at in range(0, 40)] + [(at, at + 7) for at in range(0, 34)]
    pairs += [(at, at + 12) for at in range(0, 29)] + [(at, at + 5) for at in range(0, 30)]
    pairs += [(at, at + 1) for at in range(41, 58)]
    return folk, sorted([(folk[one], folk[other], 1 + (one * 7 + other) % 3) for one, other in pairs])


def least_far_walks(web, starters):
    """The fewest beats of a walk from a starter to (name, kind), by going over all ways until nothing is less."""
    least = {(name, 0): 0 for name in starters}
    ends = web[1] + [(other, one, beats) for one, other, beats in web[1]]
    changed = True
    while changed:
        changed = False
        for one, other, beats in ends:
            for kind in (0, 1):
                there = (other, (kind + beats) % 2)
                if (one, kind) in least and least.get(there, 10 ** 20) > least[(one, kind)] + beats:
                    least[there] = least[(one, kind)] + beats
                    changed = True
    return least


def places_of(web, most=9):
    """All folk, and of each way the spots next to its ends and in its middle, or all of a short one."""
    places = [(name, name, 0) for name in web[0]]
    for one, other, beats in web[1]:
        numbers = range(1, beats)
        if beats > most:
            numbers = [1, 2, beats // 2, beats // 2 + 1, beats - 2, beats - 1]
        places.extend([(one, other, number) for number in numbers])
    return places


def far_level(web, least, place, kind):
    """The fewest beats of a walk of the kind to a place of a web, of whatever length, by its folk's least ones."""
    one, other, number = place
    if one == other:
        return least.get((one, kind))
    whole = [beats for first, second, beats in web[1] if (first, second) == (one, other)][0]
    found = [least[(name, (kind + more) % 2)] + more for name, more in [(one, number), (other, whole - number)]
             if (name, (kind + more) % 2) in least]
    return min(found, default=None)


def three_folk_lots(lengths):
    """All webs of three folk with ways of these lengths (0: no way), each with all lots of starters."""
    pairs = list(combinations("abc", 2))
    lots = list(chain.from_iterable([combinations("abc", many) for many in (1, 2, 3)]))
    webs = [web_of("abc", {pair: beats for pair, beats in zip(pairs, row) if beats}) for row in product(lengths, repeat=3)]
    return [(web, lots) for web in webs]


class AskingCase(unittest.TestCase):
    """Tests that ask one thing after another."""

    def assert_told(self, told, call, *handed):
        """The call tells just this, of this kind, and leaves what it was handed as it was."""
        found = unchanged(self, call, *handed)
        self.assertEqual(found, told)
        self.assertIs(found.__class__, told.__class__)

    def assert_refused(self, error, call, *handed):
        """The call is refused by just this class, and leaves what it was handed as it was."""
        with self.assertRaises(error) as caught:
            unchanged(self, call, *handed)
        self.assertIs(caught.exception.__class__, error, str(handed)[:300])
        return caught.exception
