"""Families of kinds, the parts of their things, and who does a deed."""

from castslots.errors import BadFamily, NoKind, NoPart

LETTERS = "abcdef"
MOST_KINDS = 7
MOST_ELDERS = 3
MOST_CELLS = 3
MOST_PARTS = 16


def is_whole(value):
    """Tell whether value is a number."""
    # Python counts True and False among the integers, the document does not.
    return isinstance(value, int) and not isinstance(value, bool)


def is_pair(pair, number):
    """Tell whether pair is an elder that the kind of this number may have."""
    if not isinstance(pair, tuple) or len(pair) != 2:
        return False
    elder, shared = pair
    if not is_whole(elder) or not is_whole(shared):
        return False
    return 0 <= elder < number and shared in (0, 1)


def are_elders(elders, number):
    """Tell whether elders are such that the kind of this number may have them."""
    if not isinstance(elders, tuple) or len(elders) > MOST_ELDERS:
        return False
    if not all([is_pair(pair, number) for pair in elders]):
        return False
    return len(set([pair[0] for pair in elders])) == len(elders)


def are_deeds(deeds):
    """Tell whether deeds are letters, rising, each once at the most."""
    if not isinstance(deeds, str):
        return False
    return deeds == "".join([letter for letter in LETTERS if letter in deeds])


def is_kind(kind, number):
    """Tell whether kind may stand at this number, as far as it alone shows."""
    if not isinstance(kind, tuple) or len(kind) != 3:
        return False
    elders, deeds, cells = kind
    if not are_elders(elders, number) or not are_deeds(deeds):
        return False
    return is_whole(cells) and 0 <= cells <= MOST_CELLS


def elders_of(family, kind):
    """Tell the elders of a kind, as its pairs (number, shared)."""
    return family[kind][0]


def deeds_of(family, kind):
    """Tell the deeds that a kind does itself."""
    return family[kind][1]


def cells_of(family, kind):
    """Tell how many cells of its own a kind has."""
    return family[kind][2]


def elder_part(part, pair):
    """Tell the part that a part has for one of its kind's elders."""
    elder, shared = pair
    if shared:
        return (elder,)
    return part + (elder,)


def meet(family, part, met):
    """Add to met what is met from part and isn't there yet."""
    if part in met:
        return
    met.append(part)
    for pair in elders_of(family, part[-1]):
        meet(family, elder_part(part, pair), met)


def met_from(family, part):
    """Tell what is met from part, itself first; nothing is checked."""
    met = []
    meet(family, part, met)
    return met


def known(family, found):
    """Tell the deeds that the kinds of the parts found do themselves, rising."""
    done = [deeds_of(family, part[-1]) for part in found]
    return "".join([letter for letter in LETTERS if any([letter in deeds for deeds in done])])


def foremost(family, found, deed):
    """Tell of the parts found that do a deed the one inside which all these are, or None."""
    doing = [part for part in found if deed in deeds_of(family, part[-1])]
    for part in doing:
        within = met_from(family, part)
        if all([other in within for other in doing]):
            return part
    return None


def is_sound(family, kind):
    """Tell whether things of a kind have few enough parts, and a doer for each known deed."""
    found = met_from(family, (kind,))
    if len(found) > MOST_PARTS:
        return False
    return all([foremost(family, found, deed) is not None for deed in known(family, found)])


def need_family(family):
    """Refuse, with BadFamily, what is no family."""
    if len(family) > MOST_KINDS:
        raise BadFamily(MOST_KINDS)
    if len(family) == 0:
        raise BadFamily(0)
    # A kind's parts are of lesser kinds, so these are checked before their parts are looked for.
    for number, kind in enumerate(family):
        if not is_kind(kind, number) or not is_sound(family, number):
            raise BadFamily(number)


def need_kind(family, kind):
    """Refuse what is no family, then a kind that it doesn't have."""
    need_family(family)
    if not is_whole(kind) or not 0 <= kind < len(family):
        raise NoKind("the family has no such kind")


def need_part(family, kind, part):
    """Refuse what need_kind refuses, then a part that things of the kind don't have."""
    need_kind(family, kind)
    if part not in met_from(family, (kind,)) or not all([is_whole(number) for number in part]):
        raise NoPart("things of this kind have no such part")


def parts(family, kind):
    """Tell all parts of a thing of a kind, each as it is first met."""
    need_kind(family, kind)
    return met_from(family, (kind,))


def inside(family, kind, part):
    """Tell the parts that are met from a part of a thing of a kind, itself first."""
    need_part(family, kind, part)
    return met_from(family, part)


def knows(family, kind):
    """Tell the deeds that a kind knows, as a text with its letters rising."""
    need_kind(family, kind)
    return known(family, met_from(family, (kind,)))


def doer(family, kind, deed):
    """Tell the part of a thing of a kind that does a deed; None, if the kind doesn't know it."""
    need_kind(family, kind)
    return foremost(family, met_from(family, (kind,)), deed)
