"""What deeds come to and which seals close, told the slow way, straight from the document's words."""


def stamp(deed):
    return (deed[2], deed[0], deed[1])


def name(deed):
    return (deed[0], deed[1])


def has(rows, one):
    return any(house == one[0] and first <= one[1] <= last for house, first, last in rows)


def each_once(deeds):
    return sorted(set(deeds), key=stamp)


def backs(deeds):
    return [deed for deed in deeds if deed[3][0] == "back"]


def seals(deeds):
    return [deed for deed in deeds if deed[3][0] == "seal"]


def is_void(back, deeds):
    taken = back[3][1:]
    sealed = any(stamp(seal) < stamp(back) and has(seal[3][1], taken) for seal in seals(deeds))
    return sealed or any(name(deed) == taken and stamp(deed) >= stamp(back) for deed in deeds)


def is_taken(one, deeds):
    if one[3][0] in ("seal", "bye"):
        return False
    return any(back[3][1:] == name(one) and not is_void(back, deeds) and not is_taken(back, deeds)
               for back in backs(deeds))


def slow_void(deeds):
    return [name(back) for back in backs(each_once(deeds)) if is_void(back, deeds)]


def slow_alive(deeds):
    return [name(deed) for deed in each_once(deeds) if not is_taken(deed, deeds)]


def slow_worths(deeds):
    worths = [0] * 6
    for deed in each_once(deeds):
        word, *parts = deed[3]
        if word in ("put", "add") and not is_taken(deed, deeds):
            worths[parts[0]] = parts[1] + (worths[parts[0]] if word == "add" else 0)
    return worths


def is_heard(house, seal, held):
    """Held are all deeds that are held, cut off or not, by their names."""
    number = 1
    while (house, number) in held:
        deed = held[(house, number)]
        if deed[3][0] == "bye" or stamp(deed) >= stamp(seal):
            return True
        number += 1
    return False


def slow_why_not(seal, many, held, cut):
    for house in range(many):
        if not is_heard(house, seal, held):
            return ("unheard", house)
    for deed in each_once(held.values()):
        if deed[3][0] in ("seal", "bye") or stamp(deed) >= stamp(seal) or name(deed) in cut:
            continue
        if not any(stamp(other) <= stamp(seal) and has(other[3][1], name(deed)) for other in seals(held.values())):
            return ("open",) + name(deed)
    return None
