"""The judge of packets and of bills (points [59] to [61])."""


def first_fault(went_in, came_out, bound, quiet):
    """Return the word of the first fault of the packets of one bearer and way, or an empty one."""
    # A row that is longer than what went in is not equal to a beginning of it either.
    if came_out != went_in[:len(came_out)]:
        return "order"
    inside = len(went_in) - len(came_out)
    if inside > bound:
        return "held"
    if quiet and inside > 0:
        return "missing"
    return ""


def bill_fault(packets, metered, billed, is_settled):
    """Return the word of the first fault of a bill for these packets, or an empty one."""
    size = sum([len(packet) for packet in packets])
    if metered != size:
        return "metered"
    if billed > size:
        return "billed"
    if is_settled and billed != size:
        return "open"
    return ""
