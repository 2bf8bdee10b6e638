"""Webs and their places, the parts of a web, and its least odd round."""

from elsetold.errors import NoPlace, NoWeb
from elsetold.forms import is_name, is_row, is_row_of, is_whole, rises
from elsetold.walks import all_from, least_walks, ways_from

MOST_FOLK = 60
MOST_WAYS = 150
MOST_BEATS = 1000000000000


def is_web(thing):
    """Tell whether it is a web."""
    if not is_row_of(2, thing):
        return False
    folk, ways = thing
    return are_folk(folk) and are_ways(folk, ways)


def are_folk(thing):
    """Tell whether it is a rising list of names, as many as a web may have."""
    if not is_row(thing) or not 1 <= len(thing) <= MOST_FOLK:
        return False
    return all([is_name(name) for name in thing]) and rises(thing)


def are_ways(folk, thing):
    """Tell whether it is a rising list of ways of these folk, as many as a web may have."""
    if not is_row(thing) or len(thing) > MOST_WAYS:
        return False
    if not all([is_way(folk, way) for way in thing]):
        return False
    return rises([(way[0], way[1]) for way in thing])


def is_way(folk, thing):
    """Tell whether it is a way of two of these folk."""
    if not is_row_of(3, thing):
        return False
    one, other, beats = thing
    if not (is_name(one) and is_name(other) and are_way_beats(beats)):
        return False
    return one in folk and other in folk and one < other


def are_way_beats(thing):
    """Tell whether a way may have so many beats."""
    return is_whole(thing) and 1 <= thing <= MOST_BEATS


def own_web(web):
    """Give a copy of the web, of the kinds that are told; refuse what is none."""
    if not is_web(web):
        raise NoWeb("this is no web")
    folk, ways = web
    return list(folk), [tuple(way) for way in ways]


def own_place(web, place):
    """Give a copy of the place as a tuple; refuse what is none of the web."""
    if not is_place(web, place):
        raise NoPlace("this is no place of the web")
    return tuple(place)


def is_place(web, thing):
    """Tell whether it is a place of the web."""
    if not is_row_of(3, thing):
        return False
    one, other, number = thing
    if not (is_name(one) and is_name(other) and is_whole(number)):
        return False
    if one == other:
        return one in web[0] and number == 0
    return 1 <= number < beats_between(web, one, other)


def beats_between(web, one, other):
    """Give the beats of the way of these two, the lesser name ahead, 0 where there is none."""
    for first, second, beats in web[1]:
        if first == one and second == other:
            return beats
    return 0


def person(name):
    """Give the place of one of the folk."""
    return (name, name, 0)


def place_on(way, number):
    """Give the place so many beats from the first end of the way, be it an end or a spot."""
    one, other, beats = way
    if number == 0:
        return person(one)
    if number == beats:
        return person(other)
    return (one, other, number)


def numbers_beside(way, place):
    """Give how many beats from the way's first end the place's neighbours on this way are."""
    one, other, beats = way
    if place == person(one):
        return [1]
    if place == person(other):
        return [beats - 1]
    if place[0] == one and place[1] == other:
        return [place[2] - 1, place[2] + 1]
    return []


def places_beside(web, place):
    """Give the rising list of the neighbours of a place that is known to be one."""
    return sorted([place_on(way, number) for way in web[1] for number in numbers_beside(way, place)])


def folk_beside(web, place):
    """Give for the person, or for both ends of the spot's way, a tuple (name, beats from there to the place)."""
    one, other, number = place
    if number == 0:
        return [(one, 0)]
    return [(one, number), (other, beats_between(web, one, other) - number)]


def neighbours(web, place):
    """Give the rising list of the place's neighbours."""
    own = own_web(web)
    return places_beside(own, own_place(own, place))


def parts(web):
    """Give the parts of the web by their first ones, each the rising list of its folk."""
    own = own_web(web)
    ends = ways_from(own)
    placed = {}
    told = []
    for name in own[0]:
        if name not in placed:
            part = all_from(ends, name)
            placed.update({each: True for each in part})
            told.append(part)
    return told


def odd_round(web):
    """Give the tuple (beats, name) of the least odd round and the first name on any such, or None."""
    own = own_web(web)
    ends = ways_from(own)
    found = []
    for name in own[0]:
        # A round can be begun at any of its folk, so each name's own least odd round is enough.
        beats = least_walks(ends, [name]).get((name, 1))
        if beats is not None:
            found.append((beats, name))
    return min(found, default=None)
