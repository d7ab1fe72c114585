"""Flat bodies: slices across an axis, and the shadow along it.

Eight bytes each: bit u of byte v stands for u, v, the two numbers left.
"""

from spacebook.bodies import STRIDES

# For each axis: which two numbers are left, u and v.
LEFT = ((1, 2), (0, 2), (0, 1))


def layer_bytes(body, axis, w):
    """The slice across that axis at w."""
    return [layer_byte(body, axis, w, v) for v in range(8)]


def layer_byte(body, axis, w, v):
    """The byte v of that slice."""
    axis_u, axis_v = LEFT[axis]
    first = w * STRIDES[axis] + v * STRIDES[axis_v]
    byte = 0
    for u in range(8):
        byte |= ((body >> (first + u * STRIDES[axis_u])) & 1) << u
    return byte


def shadow_bytes(body, axis):
    """The shadow along that axis: all slices across it, laid on one another."""
    shadow = [0] * 8
    for w in range(8):
        shadow = [a | b for a, b in zip(shadow, layer_bytes(body, axis, w))]
    return shadow
