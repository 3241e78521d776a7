"""Rings of cards, and the seams at which they can be cut."""

from wovenway.rows import check_row, is_woven


def cut(ring, seam):
    """Tell the row that begins with the card at the seam."""
    return ring[seam:] + ring[:seam]


def seams(ring):
    """List all seams at which the ring is cut into a woven row, rising."""
    check_row(ring)
    return [seam for seam in range(len(ring)) if is_woven(cut(ring, seam))]
