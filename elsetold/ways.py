"""What a way more or less changes: webs with one, needless ways, and ways that are in all odd rounds."""

from elsetold.beats import own_starters
from elsetold.errors import NoBeat, NoFolk, NoWay, Taken, TooMany
from elsetold.forms import is_name
from elsetold.walks import least_walks, ways_from
from elsetold.webs import MOST_WAYS, are_way_beats, beats_between, own_web, parts


def own_pair(web, one, other):
    """Give the two as a rising list; refuse what are no two unlike folk of the web."""
    if not (is_name(one) and is_name(other) and one in web[0] and other in web[0] and one != other):
        raise NoFolk("these are no two unlike folk of the web")
    return sorted([one, other])


def with_way(web, one, other, beats):
    """Give the web with one way more, of so many beats."""
    own = own_web(web)
    low, high = own_pair(own, one, other)
    if not are_way_beats(beats):
        raise NoBeat("no way has so many beats")
    if beats_between(own, low, high) > 0:
        raise Taken("these two have a way already")
    if len(own[1]) == MOST_WAYS:
        raise TooMany(MOST_WAYS + 1)
    return own[0], sorted([*own[1], (low, high, beats)])


def without_way(web, one, other):
    """Give the web without the way of these two."""
    own = own_web(web)
    low, high = own_pair(own, one, other)
    beats = beats_between(own, low, high)
    if beats == 0:
        raise NoWay("these two have no way")
    return less_way(own, (low, high, beats))


def less_way(web, way):
    """Give a web that is known to be one without this way of its."""
    return web[0], [each for each in web[1] if each != way]


def needless(web, starters):
    """Give the rising list of the ways without which, each alone, all folk hear at just the same beats."""
    own = own_web(web)
    begun = own_starters(own, starters)
    least = least_walks(ways_from(own), begun)
    return [way for way in own[1] if least_walks(ways_from(less_way(own, way)), begun) == least]


def has_odd_round(web):
    """Tell whether any round is odd."""
    # A part has an odd round just where its first one has an odd walk back, and no walk leaves a part.
    firsts = [part[0] for part in parts(web)]
    least = least_walks(ways_from(web), firsts)
    return any([(name, 1) in least for name in firsts])


def in_all_odd_rounds(web):
    """Give the rising list of the ways of which each alone is in all odd rounds, None where all rounds are even."""
    own = own_web(web)
    if not has_odd_round(own):
        return None
    return [way for way in own[1] if not has_odd_round(less_way(own, way))]
