"""What was lost by an hour that is gone, of stretches told as tuples (begun, dry, rate)."""

from rotstacks.errors import NotGone


def hours_gone(stretches):
    if len(stretches) == 0:
        return 0
    return stretches[-1][1]


def lost_by(stretches, hour):
    if hour < 0 or hour > hours_gone(stretches):
        raise NotGone("the hour lies below 0 or is not gone yet")
    lost = 0
    for begun, dry, rate in stretches:
        if begun < hour:
            lost += rate * (min(hour, dry) - begun)
    return lost
