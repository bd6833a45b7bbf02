"""A second way to the same answers: by all roads, and by slots that are written out one by one."""


def roads(family, kind):
    """All roads from a kind up to its elders, in the order in which they are walked."""
    found = [()]
    for pair in family[kind][0]:
        found.extend((pair,) + road for road in roads(family, pair[0]))
    return found


def end_of(part, road):
    """The part at the end of a road that begins at part."""
    for elder, shared in road:
        part = (elder,) if shared else part + (elder,)
    return part


def inside(family, part):
    ends = [end_of(part, road) for road in roads(family, part[-1])]
    return list(dict.fromkeys(ends))


def parts(family, kind):
    return inside(family, (kind,))


def doers(family, kind, deed):
    """The parts that do a deed and have all others that do it inside them."""
    doing = {part for part in parts(family, kind) if deed in family[part[-1]][1]}
    return [part for part in parts(family, kind) if part in doing and doing <= set(inside(family, part))]


def first_bad(family):
    """The first kind with too many parts, or with a deed that none or several parts do; or None."""
    for kind in range(len(family)):
        if len(parts(family, kind)) > 16:
            return kind
        known = {deed for part in parts(family, kind) for deed in family[part[-1]][1]}
        if any(len(doers(family, kind, deed)) != 1 for deed in known):
            return kind
    return None


def body(family, part):
    """The slots of a part's body, each as a text and the parts that it belongs to."""
    plain = [elder for elder, shared in family[part[-1]][0] if shared == 0]
    slots = []
    for elder in plain:
        slots.extend((sign, owners + (part,)) for sign, owners in body(family, part + (elder,)))
    if not plain:
        slots.append(("head", (part,)))
    slots.extend([("cell", (part,))] * family[part[-1]][2])
    return slots


def thing(family, kind):
    slots = body(family, (kind,))
    for part in parts(family, kind)[1:]:
        if len(part) == 1:
            slots.extend(body(family, part))
    return slots


def laid(family, kind):
    slots = thing(family, kind)
    begins = []
    for part in parts(family, kind):
        within = [at for at, (sign, owners) in enumerate(slots) if part in owners]
        begins.append((part, within[0]))
    return len(slots), begins


def own_cells(family, kind, part):
    slots = thing(family, kind)
    return [at for at, (sign, owners) in enumerate(slots) if sign == "cell" and owners[0] == part]


def chain(family, kind):
    """A kind, its first plain elder, the first plain elder of that, and so on."""
    plain = [elder for elder, shared in family[kind][0] if shared == 0]
    return [kind] + (chain(family, plain[0]) if plain else [])


def numbers(family, asked):
    """The numbers by going down each kind's chain, with a place for each deed at its highest asker."""
    told = []
    for kind in range(len(family)):
        highest = {}
        for asker in reversed(chain(family, kind)):
            for deed in sorted({deed for held, deed in asked if held == asker}):
                highest.setdefault(deed, asker)
        told.append(list(highest.items()))
    return told


def table(family, asked, kind, slot):
    """The table of one slot, or None where no part begins."""
    begins = dict(laid(family, kind)[1])
    there = [part for part in begins if begins[part] == slot]
    if not there:
        return None
    shared = [part for part in inside(family, there[0]) if len(part) == 1 and part != there[0]]
    doing = [doers(family, kind, deed)[0] for deed, asker in numbers(family, asked)[there[0][-1]]]
    return (
        slot,
        [(part[-1], begins[part] - slot) for part in shared],
        [(part[-1], begins[part] - slot) for part in doing],
    )


def tables(family, asked, kind):
    found = [table(family, asked, kind, slot) for slot in range(laid(family, kind)[0])]
    return [told for told in found if told is not None]


def unlike(family, other, asked):
    told = []
    for kind in range(len(family)):
        flags = (
            laid(family, kind) != laid(other, kind),
            numbers(family, asked)[kind] != numbers(other, asked)[kind],
            tables(family, asked, kind) != tables(other, asked, kind),
        )
        if True in flags:
            told.append((kind,) + flags)
    return told
