"""How things are laid in slots, and how far their parts stand apart."""

from castslots.errors import NoElder
from castslots.families import cells_of, elder_part, elders_of, is_whole, met_from, need_kind, need_part


def plain_elders(family, kind):
    """Tell the numbers of a kind's plain elders, in order."""
    return [elder for elder, shared in elders_of(family, kind) if not shared]


def before_cells(family, kind):
    """Tell how many slots of a kind's body stand before its own cells."""
    plain = plain_elders(family, kind)
    if not plain:
        return 1
    return sum([body_size(family, elder) for elder in plain])


def body_size(family, kind):
    """Tell how many slots a kind's body has."""
    return before_cells(family, kind) + cells_of(family, kind)


def plain_step(family, kind, elder):
    """Tell by how many slots a plain elder's body begins behind the body of its kind."""
    plain = plain_elders(family, kind)
    return sum([body_size(family, earlier) for earlier in plain[:plain.index(elder)]])


def place(family, kind):
    """Tell how many slots a thing has, and in a dict the slot where each part begins."""
    size = 0
    begins = {}
    for part in met_from(family, (kind,)):
        if len(part) == 1:
            begins[part] = size
            size += body_size(family, part[0])
        else:
            # A plain elder's part is met from its own part only, so that one is placed already.
            begins[part] = begins[part[:-1]] + plain_step(family, part[-2], part[-1])
    return size, begins


def laid(family, kind):
    """Tell how many slots a thing of a kind has, and (part, slot) for all its parts."""
    need_kind(family, kind)
    size, begins = place(family, kind)
    return size, list(begins.items())


def own_cells(family, kind, part):
    """Tell the slots of a part's own cells, rising."""
    need_part(family, kind, part)
    begins = place(family, kind)[1]
    first = begins[part] + before_cells(family, part[-1])
    return list(range(first, first + cells_of(family, part[-1])))


def moved(family, kind, part, elder):
    """Tell by how many slots an elder's part begins behind a part of a thing of a kind."""
    need_part(family, kind, part)
    pairs = [pair for pair in elders_of(family, part[-1]) if pair[0] == elder]
    if not pairs or not is_whole(elder):
        raise NoElder("the part's kind has no such elder")
    begins = place(family, kind)[1]
    return begins[elder_part(part, pairs[0])] - begins[part]


def step(family, kind, elder):
    """Tell by how many slots a plain elder begins behind its kind, in all things."""
    need_kind(family, kind)
    if elder not in plain_elders(family, kind) or not is_whole(elder):
        raise NoElder("the kind has no such plain elder")
    return plain_step(family, kind, elder)
