"""What deeds come to: which backs are void, what is taken back, the worths.

A line is a list of deeds by their stamps, each once. Behind a line stand rows
that were cut off ahead of it, none for deeds that are all told.
"""

from doneranges.deeds import LAST_KEY, name_of, ordered, word_of
from doneranges.rows import fewest, is_in


def is_lasting(deed):
    """Tell whether a deed is one that is never taken back."""
    return word_of(deed) in ("seal", "bye")


def void_in(line, gone):
    """Tell the names of the void backs of a line, by their stamps."""
    places = {name_of(deed): at for at, deed in enumerate(line)}
    # A back of what was cut off is void as if a seal ahead of the line had it.
    sealed = gone
    out = []
    for at, deed in enumerate(line):
        what = deed[3]
        if what[0] == "seal":
            sealed = fewest(sealed + list(what[1]))
        if what[0] == "back" and (is_in(sealed, what[1], what[2]) or places.get(what[1:], -1) >= at):
            out.append(name_of(deed))
    return out


def taken_in(line, gone):
    """Tell what the backs of a line take back, names as keys; seals and byes may be among these."""
    void_names = {name: True for name in void_in(line, gone)}
    taken = {}
    # What takes a back back has a greater stamp, so it is settled ahead of that back.
    for deed in reversed(line):
        name = name_of(deed)
        if word_of(deed) == "back" and name not in void_names and name not in taken:
            taken[deed[3][1:]] = True
    return taken


def standing(line, gone):
    """Tell the deeds of a line that aren't taken back, by their stamps."""
    taken = taken_in(line, gone)
    return [deed for deed in line if is_lasting(deed) or name_of(deed) not in taken]


def worths_behind(base, line, gone):
    """Tell what a line makes of the worths ahead of it."""
    out = list(base)
    for deed in standing(line, gone):
        what = deed[3]
        if what[0] == "put":
            out[what[1]] = what[2]
        elif what[0] == "add":
            out[what[1]] += what[2]
    return out


def no_worths():
    """Tell the worths ahead of all deeds."""
    return [0] * (LAST_KEY + 1)


def worths(deeds):
    """Tell the worths behind all deeds."""
    return worths_behind(no_worths(), ordered(deeds), [])


def alive(deeds):
    """Tell the names of all deeds that aren't taken back, by their stamps."""
    return [name_of(deed) for deed in standing(ordered(deeds), [])]


def void(deeds):
    """Tell the names of all void backs, by their stamps."""
    return void_in(ordered(deeds), [])
