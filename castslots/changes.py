"""What must be laid anew where kinds are changed."""

from castslots.errors import NoMatch
from castslots.families import need_family
from castslots.laying import laid
from castslots.tables import need_pairs, numbers, tables


def unlike(family, other, asked):
    """Tell (kind, slots, numbers, tables) for each kind of which something is other in the second family."""
    need_family(family)
    need_family(other)
    if len(family) != len(other):
        raise NoMatch("the families have unlike counts of kinds")
    need_pairs([family, other], asked)
    before = numbers(family, asked)
    after = numbers(other, asked)
    found = []
    for kind in range(len(family)):
        slots = laid(family, kind) != laid(other, kind)
        numbering = before[kind] != after[kind]
        telling = tables(family, asked, kind) != tables(other, asked, kind)
        if slots or numbering or telling:
            found.append((kind, slots, numbering, telling))
    return found
