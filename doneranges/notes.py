"""Texts: sets and deeds, written and read."""

from doneranges.deeds import check_deeds
from doneranges.errors import BadText
from doneranges.rows import check_rows, fewest, first_wrong

MOST_FIGURES = 13
# Of a deed: the place of its word, and of the first of its parts.
WORD_PLACE = 3
FIRST_PART = 4


def written_row(first, last):
    """Tell the text of one stretch, without its house."""
    return str(first) if first == last else f"{first}-{last}"


def set_words(rows):
    """Tell the words of a set that is told by the fewest rows, rising."""
    by_house = {}
    for house, first, last in rows:
        by_house.setdefault(house, []).append(written_row(first, last))
    return [str(house) + ":" + ",".join(parts) for house, parts in by_house.items()]


def written(rows):
    """Tell the text of a set."""
    check_rows(rows)
    return " ".join(set_words(fewest(rows)))


def written_deed(deed):
    """Tell the text of a deed."""
    check_deeds([deed])
    house, number, time, what = deed
    word, *parts = what
    if word == "seal":
        parts = set_words(parts[0])
    return " ".join([str(part) for part in (house, number, time, word, *parts)])


def words_of(text):
    """Tell the words of a text; of blanks too many, empty words."""
    return text.split(" ") if text != "" else []


def word_at(words, place):
    """Tell the word at a place at which one must come, if all ahead of it are there."""
    if place >= len(words):
        raise BadText(place)
    return words[place]


def number_in(figures, place):
    """Tell the number, not below 0, that figures in the word at a place tell."""
    if not figures.isdecimal() or len(figures) > MOST_FIGURES or str(int(figures)) != figures:
        raise BadText(place)
    return int(figures)


def read_number(words, place):
    """Tell the number, not below 0, that the word at a place tells."""
    return number_in(word_at(words, place), place)


def read_worth(words, place):
    """Tell the number, perhaps below 0, that the word at a place tells."""
    word = word_at(words, place)
    if not word.startswith("-"):
        return number_in(word, place)
    number = number_in(word[1:], place)
    if number == 0:
        raise BadText(place)
    return -number


def rows_in(word, place):
    """Tell the rows that the word at a place tells, whether they can be in a set or not."""
    house, _, listed = word.partition(":")
    maker = number_in(house, place)
    rows = []
    for part in listed.split(","):
        first, dash, last = part.partition("-")
        rows.append((maker, number_in(first, place), number_in(last if dash else first, place)))
    return rows


def read_rows(words, start):
    """Tell the set that the words from a place on tell."""
    rows = []
    for place in range(start, len(words)):
        rows = rows + rows_in(words[place], place)
        # A set is read only as it is written: by the fewest rows, rising, a word for each house.
        if first_wrong(rows) is not None or set_words(fewest(rows)) != words[start:place + 1]:
            raise BadText(place)
    return rows


def read(text):
    """Tell the set that a text tells."""
    return read_rows(words_of(text), 0)


def read_change(words):
    """Tell the parts of a put or an add."""
    return [read_number(words, FIRST_PART), read_worth(words, FIRST_PART + 1)]


def read_name(words):
    """Tell the parts of a back."""
    return [read_number(words, FIRST_PART), read_number(words, FIRST_PART + 1)]


def read_seal(words):
    """Tell the parts of a seal: a set, written with any count of words."""
    return [tuple(read_rows(words, FIRST_PART))]


def read_nothing(words):
    """Tell the parts of a bye: none, whatever words there are."""
    return []


READERS = {
    "put": read_change,
    "add": read_change,
    "back": read_name,
    "seal": read_seal,
    "bye": read_nothing,
}


def read_what(words):
    """Tell what a deed does."""
    word = word_at(words, WORD_PLACE)
    if word not in READERS:
        raise BadText(WORD_PLACE)
    reader = READERS[word]
    parts = reader(words)
    end = FIRST_PART + len(parts)
    if word != "seal" and len(words) > end:
        raise BadText(end)
    return (word, *parts)


def read_deed(text):
    """Tell the deed that a text tells."""
    words = words_of(text)
    house, number, time = [read_number(words, place) for place in range(WORD_PLACE)]
    deed = (house, number, time, read_what(words))
    # Its words stand where they can, but what they tell may be none.
    check_deeds([deed])
    return deed
