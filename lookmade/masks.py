"""Lists of things as masks: bit k of a mask is 1 if thing k is in the list."""

from lookmade.nets import near_things


def mask_of(things):
    """The mask of a list of things."""
    found = 0
    for thing in things:
        found = found | 1 << thing
    return found


def things_of(mask):
    """The things of a mask, ascending."""
    return tuple([thing for thing in range(mask.bit_length()) if mask >> thing & 1])


def near_masks(net):
    """For each thing of the net the mask of its neighbours."""
    return [mask_of(near) for near in near_things(net)]


def not_given(net):
    """The mask of the things of the net that are not given."""
    return mask_of([thing for thing in range(net.things) if thing not in net.given])


def met_by(near, things):
    """The mask of what these unlike things meet oddly: of what has an odd number of neighbours among them."""
    found = 0
    for thing in things:
        found = found ^ near[thing]
    return found
