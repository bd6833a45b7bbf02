"""What is asked by numbers, and the tables that tell who does it and where it begins."""

from castslots.errors import BadAsked, NoElder, NotAsked
from castslots.families import (
    LETTERS, elders_of, foremost, is_whole, known, met_from, need_family, need_kind, need_part)
from castslots.laying import place, plain_elders

MOST_ASKED = 60


def known_by_kinds(family):
    """Tell for each kind the deeds that it knows; nothing is checked."""
    return [known(family, met_from(family, (kind,))) for kind in range(len(family))]


def can_be_asked(knowing, pair):
    """Tell whether pair is a kind and a deed that it knows; knowing are the deeds that each kind knows."""
    if not isinstance(pair, tuple) or len(pair) != 2:
        return False
    kind, deed = pair
    if not is_whole(kind) or not 0 <= kind < len(knowing):
        return False
    # The empty text and several letters together may stand in a text, too.
    return isinstance(deed, str) and len(deed) == 1 and deed in knowing[kind]


def need_pairs(families, asked):
    """Refuse, with BadAsked, what can't be asked of each of the families."""
    if len(asked) > MOST_ASKED:
        raise BadAsked(MOST_ASKED)
    each_knowing = [known_by_kinds(family) for family in families]
    for number, pair in enumerate(asked):
        if not all([can_be_asked(knowing, pair) for knowing in each_knowing]):
            raise BadAsked(number)


def need_asked(family, asked):
    """Refuse what is no family, then what can't be asked of it."""
    need_family(family)
    need_pairs([family], asked)


def numbered(family, asked):
    """Tell for each kind its numbers, as (deed, asker); nothing is checked."""
    found = []
    for kind in range(len(family)):
        plain = plain_elders(family, kind)
        pairs = list(found[plain[0]]) if plain else []
        taken = [deed for deed, asker in pairs]
        pairs.extend([(deed, kind) for deed in LETTERS if (kind, deed) in asked and deed not in taken])
        found.append(pairs)
    return found


def first_parts(begins):
    """Tell in a dict, rising by slots, the first part of each slot where parts begin."""
    found = {}
    for part, slot in begins.items():
        found.setdefault(slot, part)
    return {slot: found[slot] for slot in sorted(list(found))}


def ways_from(family, begins, part):
    """Tell the kinds of the shared parts met inside part, and by how many slots they begin behind it."""
    shared = [other for other in met_from(family, part)[1:] if len(other) == 1]
    return [(other[0], begins[other] - begins[part]) for other in shared]


def rows_from(family, begins, part, pairs):
    """Tell for each of the numbers in pairs the doer's kind, and by how many slots it begins behind part."""
    rows = []
    for deed, asker in pairs:
        # The whole thing does it, so the doer may be a part that isn't inside this one.
        doing = foremost(family, list(begins), deed)
        rows.append((doing[-1], begins[doing] - begins[part]))
    return rows


def numbers(family, asked):
    """Tell for each kind a list of its numbers, as (deed, asker)."""
    need_asked(family, asked)
    return numbered(family, asked)


def tables(family, asked, kind):
    """Tell the tables of a thing of a kind, as (slot, ways, rows), rising by slots."""
    need_asked(family, asked)
    need_kind(family, kind)
    begins = place(family, kind)[1]
    pairs = numbered(family, asked)
    found = []
    for slot, part in first_parts(begins).items():
        rows = rows_from(family, begins, part, pairs[part[-1]])
        found.append((slot, ways_from(family, begins, part), rows))
    return found


def call(family, asked, kind, part, deed):
    """Tell the kind and the slot of who does a deed that is asked of a thing held by a part."""
    need_asked(family, asked)
    need_part(family, kind, part)
    pairs = numbered(family, asked)
    deeds = [named for named, asker in pairs[part[-1]]]
    if deed not in deeds:
        raise NotAsked("the deed is none of the numbers of the part's kind")
    begins = place(family, kind)[1]
    slot = begins[part]
    first = first_parts(begins)[slot]
    # The first part has the numbers of all others in its slot, ahead of its own.
    doing, far = rows_from(family, begins, first, pairs[first[-1]])[deeds.index(deed)]
    return doing, slot + far


def led(family, asked, kind, part, elder):
    """Tell the slot to which the table of a part's slot leads for a shared elder of the part's kind."""
    need_asked(family, asked)
    need_part(family, kind, part)
    if (elder, 1) not in elders_of(family, part[-1]) or not is_whole(elder):
        raise NoElder("the part's kind has no such shared elder")
    begins = place(family, kind)[1]
    slot = begins[part]
    ways = dict(ways_from(family, begins, first_parts(begins)[slot]))
    return slot + ways[elder]


def reason(family, asked, kind, deed):
    """Tell the kinds from a kind up to the asker of a deed of its numbers; None, if it is none of these."""
    need_asked(family, asked)
    need_kind(family, kind)
    askers = [asker for named, asker in numbered(family, asked)[kind] if named == deed]
    if not askers:
        return None
    road = [kind]
    while road[-1] != askers[0]:
        road.append(plain_elders(family, road[-1])[0])
    return road
