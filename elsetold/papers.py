"""Papers by which anybody can see that a place has a walk, or has no shorter one."""

from elsetold.beats import check_beat, own_starters
from elsetold.forms import is_name, is_row, is_row_of, is_whole
from elsetold.reaches import arrivals, own_night
from elsetold.walks import ways_from
from elsetold.webs import beats_between, folk_beside, own_place, own_web


def walk_to(web, starters, place, beat):
    """Give the names of a walk of fewest beats of the beat's kind to the place, None where there is none."""
    own, least = own_night(web, starters)
    here = own_place(own, place)
    check_beat(beat)
    found = arrivals(own, least, here, beat % 2)
    if not found:
        return None
    _, name, beats = min(found)
    return least_walk(ways_from(own), least, name, beats)


def least_walk(ends, least, name, beats):
    """Give the names of a walk to one of the folk, whose reach of some kind is just so many beats."""
    names = [name]
    # Only who began has a reach of no beats.
    while beats > 0:
        name, beats = one_before(ends, least, name, beats)
        names.append(name)
    return names[::-1]


def one_before(ends, least, name, beats):
    """Give who stands ahead of this one on a least walk of so many beats, and the beats there."""
    found = [(other, beats - more) for other, more in ends[name]]
    return min([(other, less) for other, less in found if least.get((other, less % 2)) == less])


def is_walk(web, starters, place, beat, thing):
    """Tell whether it is a paper that the place has a walk of the beat's kind of no more beats."""
    own = own_web(web)
    begun = own_starters(own, starters)
    here = own_place(own, place)
    check_beat(beat)
    if not are_names_from(begun, thing):
        return False
    steps = [beats_between(own, min(one, other), max(one, other)) for one, other in zip(thing, thing[1:])]
    more = [beats for name, beats in folk_beside(own, here) if name == thing[-1]]
    if 0 in steps or not more:
        return False
    beats = sum(steps) + more[0]
    return beats <= beat and (beat - beats) % 2 == 0


def are_names_from(starters, thing):
    """Tell whether it is a list of names, the first one of the starters."""
    if not is_row(thing) or len(thing) == 0:
        return False
    return all([is_name(name) for name in thing]) and thing[0] in starters


def all_reaches(web, starters):
    """Give the dict from all folk to their reaches, tuples (even, odd)."""
    own, least = own_night(web, starters)
    return {name: (least.get((name, 0)), least.get((name, 1))) for name in own[0]}


def are_bounds(web, starters, thing):
    """Tell whether it is a paper of numbers that no reach of anybody is less than."""
    own = own_web(web)
    begun = own_starters(own, starters)
    return are_own_bounds(own, begun, thing)


def are_own_bounds(web, starters, thing):
    """Tell the same of a web and starters that are known to be such."""
    if not are_pairs_of(web[0], thing):
        return False
    if not all([thing[name][0] == 0 for name in starters]):
        return False
    along = [(thing[one], thing[other], beats) for one, other, beats in web[1]]
    return all([holds_along(here, there, beats) and holds_along(there, here, beats) for here, there, beats in along])


def are_pairs_of(folk, thing):
    """Tell whether it is a dict from all these folk to pairs of bounds."""
    if not isinstance(thing, dict) or len(thing) != len(folk):
        return False
    if not all([is_name(name) and name in folk for name in thing]):
        return False
    return all([is_row_of(2, thing[name]) and is_bound(thing[name][0]) and is_bound(thing[name][1]) for name in thing])


def is_bound(thing):
    """Tell whether it is a whole number from 0 on or None."""
    return thing is None or (is_whole(thing) and thing >= 0)


def holds_along(here, there, beats):
    """Tell whether no number of this end is more than by the way from the other one."""
    for kind in (0, 1):
        far = there[(kind + beats) % 2]
        if far is not None and (here[kind] is None or here[kind] > far + beats):
            return False
    return True


def shows_not_sooner(web, starters, place, beat, thing):
    """Tell whether, by such a paper of bounds, the place has no walk of the beat's kind of fewer beats."""
    own = own_web(web)
    begun = own_starters(own, starters)
    here = own_place(own, place)
    check_beat(beat)
    if not are_own_bounds(own, begun, thing):
        return False
    found = [(thing[name][(beat - more) % 2], more) for name, more in folk_beside(own, here)]
    return all([bound is None or bound + more >= beat for bound, more in found])
