"""Masks: integers whose bit number k tells whether member number k of some tuple is meant."""


def all_of(members):
    """Return the mask that means all members of a tuple."""
    return (1 << len(members)) - 1


def numbers_in(mask):
    """Return the ascending list of the numbers of the members that a mask means."""
    return [k for k in range(mask.bit_length()) if mask >> k & 1]


def chosen(members, mask):
    """Return the tuple of those of the members that a mask means, in their sequence."""
    return tuple([members[k] for k in numbers_in(mask)])


def mask_of(members, some):
    """Return the mask that means some, unlike ones, of the members."""
    bits = {member: 1 << k for k, member in enumerate(members)}
    return sum([bits[member] for member in some])
