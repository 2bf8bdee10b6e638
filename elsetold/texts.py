"""Webs and records as texts, and texts read back."""

from elsetold.errors import NoText
from elsetold.forms import is_name, rises
from elsetold.records import is_record, own_record
from elsetold.webs import is_web, own_web

FIGURES = "0123456789"


def is_number(word):
    """Tell whether the word is a whole number by figures, without a 0 ahead of other ones."""
    if word == "" or not all([sign in FIGURES for sign in word]):
        return False
    return word == "0" or word[0] != "0"


def number_of(word):
    """Give the number that the word is."""
    number = 0
    # Figure by figure, since Python itself reads no number of very many figures.
    for figure in word:
        number = number * 10 + FIGURES.index(figure)
    return number


def is_stretch_word(word):
    """Tell whether the word is two numbers with a dash between."""
    first, _, last = word.partition("-")
    return is_number(first) and is_number(last)


def stretch_of(word):
    """Give the stretch that the word is."""
    first, _, last = word.partition("-")
    return number_of(first), number_of(last)


def is_folk_row(words):
    """Tell whether the row has the form of the one of all folk."""
    return len(words) > 1 and words[0] == "folk" and all([is_name(word) for word in words[1:]])


def is_way_row(words):
    """Tell whether the row has the form of one of a way."""
    if len(words) != 4 or words[0] != "way":
        return False
    return is_name(words[1]) and is_name(words[2]) and is_number(words[3])


def is_watcher_row(words):
    """Tell whether the row has the form of one of a watcher."""
    stretches = [is_stretch_word(word) for word in words[1:]]
    if not all([found or is_number(word) for found, word in zip(stretches, words[1:])]):
        return False
    # Numbers all stand ahead of stretches just where these truths rise.
    return is_name(words[0]) and stretches == sorted(stretches)


def words_of_rows(text):
    """Give the words of each row of the text; refuse what is no text."""
    if not isinstance(text, str):
        raise NoText(None)
    return [row.split(" ") for row in text.split("\n")]


def check_forms(good):
    """Refuse rows of which some have no form, by whether each has."""
    if False in good:
        raise NoText(good.index(False))


def show_web(web):
    """Give the web's text."""
    folk, ways = own_web(web)
    rows = [" ".join(["folk", *folk])]
    rows.extend([f"way {one} {other} {beats}" for one, other, beats in ways])
    return "\n".join(rows)


def show_record(record):
    """Give the record's text."""
    rows = []
    for name, (heard, still) in own_record(record).items():
        words = [str(beat) for beat in heard] + [f"{first}-{last}" for first, last in still]
        rows.append(" ".join([name, *words]))
    return "\n".join(rows)


def read_web(text):
    """Give the web that the text writes."""
    rows = words_of_rows(text)
    check_forms([is_folk_row(rows[0])] + [is_way_row(words) for words in rows[1:]])
    web = rows[0][1:], [(one, other, number_of(beats)) for _, one, other, beats in rows[1:]]
    if not is_web(web):
        raise NoText(None)
    return web


def read_record(text):
    """Give the record that the text writes."""
    rows = words_of_rows(text)
    if text == "":
        return {}
    check_forms([is_watcher_row(words) for words in rows])
    record = {words[0]: watched_of(words[1:]) for words in rows}
    # Each record has one writing, so rows in another order write none.
    if not rises([words[0] for words in rows]) or not is_record(record):
        raise NoText(None)
    return record


def watched_of(words):
    """Give the tuple (heard, still) that the words of a watcher's row write, behind the name."""
    heard = [number_of(word) for word in words if is_number(word)]
    return heard, [stretch_of(word) for word in words if not is_number(word)]
