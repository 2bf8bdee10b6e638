"""Who may have begun the cry, by what some watchers heard and did not hear."""

from elsetold.errors import TooMany
from elsetold.forms import is_name, is_row, is_row_of, is_whole
from elsetold.records import own_record_of
from elsetold.walks import least_walks, ways_from
from elsetold.webs import own_web

MOST_COUNTED = 12


def own_watch(web, record):
    """Give a tuple (folk, record, walks): copies, and the least walks to each watcher from all folk.

    A walk there is as long as the walk back, so they are those that the watcher has to all folk.
    """
    own = own_web(web)
    kept = own_record_of(own, record)
    ends = ways_from(own)
    return own[0], kept, {watcher: least_walks(ends, [watcher]) for watcher in kept}


def least_of(walks, names, kind):
    """Give the fewest beats of a walk of the kind that any of these has to the watcher, None where none has one."""
    return min([walks[(name, kind)] for name in names if (name, kind) in walks], default=None)


def barring_beat(watched, least):
    """Give the beat of a bar for who has just this walk, none of the others having less; None where there is none."""
    heard, still = watched
    for beat in heard:
        if least < beat and (beat - least) % 2 == 0:
            return beat
    if any([first <= least <= last for first, last in still]):
        return least
    return None


def next_bars(record, walks, left):
    """Give the bars by which one watcher strikes some of those who are left, [] where no watcher strikes anybody."""
    for watcher in record:
        for kind in (0, 1):
            least = least_of(walks[watcher], left, kind)
            beat = None if least is None else barring_beat(record[watcher], least)
            if beat is not None:
                return [(name, watcher, beat) for name in left if walks[watcher].get((name, kind)) == least]
    return []


def strike(folk, record, walks):
    """Give a tuple (left, bars): who is in each lot that may fit, at most, and the bars that strike all others."""
    left = folk
    bars = []
    struck = next_bars(record, walks, left)
    while struck:
        bars.extend(struck)
        names = [name for name, _, _ in struck]
        left = [name for name in left if name not in names]
        struck = next_bars(record, walks, left)
    return left, bars


def is_missed(walks, left, beat):
    """Tell whether the beat is nobody's least walk of its kind to the watcher, of those left."""
    return all([walks.get((name, beat % 2)) != beat for name in left])


def first_missed(record, walks, left):
    """Give the first (watcher, beat), heard, that is nobody's least walk of those left, None where there is none."""
    for watcher in record:
        for beat in record[watcher][0]:
            if is_missed(walks[watcher], left, beat):
                return watcher, beat
    return None


def greatest_lot(folk, record, walks):
    """Give the rising list of all who are in any lot that fits, [] where none does."""
    left, _ = strike(folk, record, walks)
    return left if first_missed(record, walks, left) is None else []


def mask_of(truths):
    """Give the number whose bits are these truths, the first one the least."""
    return sum([1 << at for at, truth in enumerate(truths) if truth])


def terms_of(watched, walks, lot):
    """Give the terms of one watcher: tuples of two masks, of which a lot has one of the second or none of the first."""
    heard, still = watched
    terms = []
    for beat in heard:
        there = mask_of([walks.get((name, beat % 2)) == beat for name in lot])
        # Nobody of a greatest lot has less, but any lot that there is must have somebody with just the beat.
        terms.append((mask_of([True for _ in lot]), there))
    for kind in (0, 1):
        # Who has no walk of the kind is never in a stretch, and neither is the beat 0.
        levels = [walks.get((name, kind), 0) for name in lot]
        for first, last in still:
            inside = mask_of([first <= level <= last for level in levels])
            ahead = mask_of([(name, kind) in walks and level < first for name, level in zip(lot, levels)])
            terms.append((inside, ahead))
    return terms


def fitting_masks(record, walks, lot):
    """Give the masks of all lots that fit, of the folk of the greatest one."""
    terms = {}
    for watcher in record:
        terms.update({term: True for term in terms_of(record[watcher], walks[watcher], lot)})
    masks = list(range(1, 1 << len(lot)))
    for barred, saving in terms:
        masks = [mask for mask in masks if not mask & barred or mask & saving]
    return masks


def fitting_lots(web, record):
    """Give all lots that fit, each a rising list; refuse more of them than can be gone through."""
    folk, kept, walks = own_watch(web, record)
    lot = greatest_lot(folk, kept, walks)
    if len(lot) > MOST_COUNTED:
        raise TooMany(len(lot))
    masks = fitting_masks(kept, walks, lot)
    return [[name for at, name in enumerate(lot) if mask & (1 << at)] for mask in masks]


def may_begin(web, record):
    """Give the greatest lot that fits the record, a rising list, or None where none does."""
    folk, kept, walks = own_watch(web, record)
    return greatest_lot(folk, kept, walks) or None


def lots_counted(web, record):
    """Give how many lots fit the record."""
    return len(fitting_lots(web, record))


def least_lot(web, record):
    """Give the lot of fewest starters that fits, the least list of these, or None where none does."""
    found = [(len(lot), lot) for lot in fitting_lots(web, record)]
    return min(found)[1] if found else None


def torn(web, record):
    """Give a paper (bars, end) that no lot fits the record, or None where some lot does."""
    folk, kept, walks = own_watch(web, record)
    left, bars = strike(folk, kept, walks)
    if not left:
        return bars, None
    missed = first_missed(kept, walks, left)
    return None if missed is None else (bars, missed)


def is_torn(web, record, thing):
    """Tell whether it is a paper that no lot fits the record."""
    folk, kept, walks = own_watch(web, record)
    if not is_row_of(2, thing) or not is_row(thing[0]):
        return False
    bars, end = thing
    left = folk
    for bar in bars:
        if not is_bar(kept, walks, left, bar):
            return False
        left = [name for name in left if name != bar[0]]
    return is_end(kept, walks, left, end)


def is_bar(record, walks, left, thing):
    """Tell whether it is a bar (name, watcher, beat) that strikes one of those who are left."""
    if not is_row_of(3, thing):
        return False
    name, watcher, beat = thing
    if not (is_name(name) and name in left and is_watch(record, watcher, beat)):
        return False
    least = walks[watcher].get((name, beat % 2))
    if least is None:
        return False
    heard, still = record[watcher]
    if least < beat and beat in heard:
        return True
    soonest = least_of(walks[watcher], left, beat % 2)
    return least == beat and any([first <= beat <= last and first <= soonest for first, last in still])


def is_watch(record, watcher, beat):
    """Tell whether these are one of the watchers and a whole number."""
    return is_name(watcher) and watcher in record and is_whole(beat)


def is_end(record, walks, left, thing):
    """Tell whether it is the end of a paper behind whose bars these are left."""
    if thing is None:
        return not left
    if not is_row_of(2, thing):
        return False
    watcher, beat = thing
    if not is_watch(record, watcher, beat):
        return False
    return beat in record[watcher][0] and is_missed(walks[watcher], left, beat)
