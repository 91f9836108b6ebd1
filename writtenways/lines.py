"""Lines as they're seen (L1, L2): a line's levels, and the order that levels tell."""

from writtenways.kinds import S, WS, bounds_isolate, is_left_out


def gives_way(kind):
    """Whether it gets the base again where the line ends or an S stands behind it."""
    return kind == WS or bounds_isolate(kind) or is_left_out(kind)


def put_to_base(kinds, levels, base):
    """The line's levels when L1 is done; kinds are the classes at first."""
    settled = list(levels)
    at_end = True
    # From the end, because what stands behind a row tells whether it gives way.
    for k in range(len(kinds) - 1, -1, -1):
        at_end = kinds[k] == S or (at_end and gives_way(kinds[k]))
        if at_end:
            settled[k] = base
    return settled


def levels_in_line(paragraph, first, many):
    # The rules see the whole paragraph: a line is cut out of it only when the levels are there.
    end = first + many
    return put_to_base(paragraph.kinds[first:end], paragraph.final_levels()[first:end], paragraph.base)


def turned_from(level, order, levels):
    """The order with each longest row of at least that level turned round."""
    turned = []
    row = []
    for k in order:
        if levels[k] >= level:
            row.append(k)
            continue
        turned.extend(row[::-1])
        turned.append(k)
        row = []
    return turned + row[::-1]


def order_seen(levels):
    """The line's places, counted from its own beginning, as they're seen from the left."""
    order = list(range(len(levels)))
    for level in range(max([0] + levels), 0, -1):
        order = turned_from(level, order, levels)
    return order


def order_read(levels, row):
    """The row, which is as it's seen, put in the order of reading."""
    read = list(row)
    for k, shown in zip(order_seen(levels), row):
        read[k] = shown
    return read
