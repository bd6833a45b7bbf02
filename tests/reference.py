"""A second way to the same answers: by all roads, and by slots that are written out one by one."""


def roads(family, kind):
    """All roads from a kind up to its elders, in the order in which they are walked."""
    found = [()]
    for pair in family[kind][0]:
        found.extend((pair,) + road for road in roads(family, pair[0]))
    return found


def end_of(part, road):
    """The part at the end of a road that begins at part."""
    for elder, shared in road:
        part = (elder,) if shared else part + (elder,)
    return part


def inside(family, part):
    ends = [end_of(part, road) for road in roads(family, part[-1])]
    return list(dict.fromkeys(ends))


def parts(family, kind):
    return inside(family, (kind,))


def doers(family, kind, deed):
    """The parts that do a deed and have all others that do it inside them."""
    doing = {part for part in parts(family, kind) if deed in family[part[-1]][1]}
    return [part for part in parts(family, kind) if part in doing and doing <= set(inside(family, part))]


def first_bad(family):
    """The first kind with too many parts, or with a deed that none or several parts do; or None."""
    for kind in range(len(family)):
        if len(parts(family, kind)) > 16:
            return kind
        known = {deed for part in parts(family, kind) for deed in family[part[-1]][1]}
        if any(len(doers(family, kind, deed)) != 1 for deed in known):
            return kind
    return None


def body(family, part):
    """The slots of a part's body, each as a text and the parts that it belongs to."""
    plain = [elder for elder, shared in family[part[-1]][0] if shared == 0]
    slots = []
    for elder in plain:
        slots.extend((sign, owners + (part,)) for sign, owners in body(family, part + (elder,)))
    if not plain:
        slots.append(("head", (part,)))
    slots.extend([("cell", (part,))] * family[part[-1]][2])
    return slots


def thing(family, kind):
    slots = body(family, (kind,))
    for part in parts(family, kind)[1:]:
        if len(part) == 1:
            slots.extend(body(family, part))
    return slots


def laid(family, kind):
    slots = thing(family, kind)
    begins = []
    for part in parts(family, kind):
        within = [at for at, (sign, owners) in enumerate(slots) if part in owners]
        begins.append((part, within[0]))
    return len(slots), begins


def own_cells(family, kind, part):
    slots = thing(family, kind)
    return [at for at, (sign, owners) in enumerate(slots) if sign == "cell" and owners[0] == part]
