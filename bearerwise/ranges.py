"""Ranges of indexes, as statuses tell them and senders keep them."""


def true_rows(flags):
    """Return (first, last) of each longest row of True in a list of True or False."""
    rows = []
    for at, flag in enumerate(flags):
        if flag and rows and rows[-1][1] == at - 1:
            rows[-1] = (rows[-1][0], at)
        elif flag:
            rows.append((at, at))
    return rows
