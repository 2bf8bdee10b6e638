"""Records of what watchers heard, and of what they did not hear."""

from elsetold.errors import NoRecord
from elsetold.forms import are_beats, is_name, is_row, is_row_of, is_whole
from elsetold.webs import MOST_FOLK


def is_record(thing):
    """Tell whether it is a record of any folk."""
    if not isinstance(thing, dict) or len(thing) > MOST_FOLK:
        return False
    return all([is_name(name) and is_watched(watched) for name, watched in thing.items()])


def is_watched(thing):
    """Tell whether it is what a watcher heard and did not hear, as a tuple (heard, still)."""
    if not is_row_of(2, thing):
        return False
    heard, still = thing
    return are_beats(heard) and is_row(still) and all([is_stretch(each) for each in still])


def is_stretch(thing):
    """Tell whether it is a tuple (first, last) of beats, the first one not behind the last one."""
    if not is_row_of(2, thing):
        return False
    first, last = thing
    return is_whole(first) and is_whole(last) and 1 <= first <= last


def own_record(record):
    """Give a copy of the record, its watchers in the order of names; refuse what is none of any folk."""
    if not is_record(record):
        raise NoRecord("this is no record")
    own = {}
    for name in sorted(record):
        heard, still = record[name]
        own[name] = (list(heard), [tuple(each) for each in still])
    return own


def own_record_of(web, record):
    """Give a copy of the record likewise; refuse what is none of the web's folk."""
    own = own_record(record)
    if not all([name in web[0] for name in own]):
        raise NoRecord("this is a record of other folk")
    return own
