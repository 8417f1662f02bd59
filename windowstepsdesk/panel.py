"""What set and get reach: 0 to 31 registers, 32 Y, 33 conditions, 34 and 35 the places, 36 the window, 37 the mask."""


def is_known(which):
    return 0 <= which <= 37


def put(machine, which, value):
    """What stands under which becomes value, as many bits of it as there are."""
    if which < 32:
        machine.write(which, value)
    elif which == 32:
        machine.y = value
    elif which == 33:
        machine.conditions = value & 15
    elif which == 34:
        machine.place = value & 0xFFFFFFFC
    elif which == 35:
        machine.follower = value & 0xFFFFFFFC
    elif which == 36:
        machine.window = value & 7
    else:
        machine.mask = value & 255


def look(machine, which):
    """What stands under which."""
    if which < 32:
        return machine.read(which)
    if which == 32:
        return machine.y
    if which == 33:
        return machine.conditions
    if which == 34:
        return machine.place
    if which == 35:
        return machine.follower
    if which == 36:
        return machine.window
    return machine.mask
