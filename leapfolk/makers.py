"""The makers of a standing."""

from leapfolk.frames import frame_of
from leapfolk.moves import plain_points
from leapfolk.yards import need_standing


def makers(yard, standing):
    """Return the list of the makers: how the kept span is made over the floor."""
    need_standing(yard, standing)
    return frame_of(yard, plain_points(standing)).makers
