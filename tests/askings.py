"""All that are handed a net, a table or lanes, as calls without arguments."""

from wormways.bending import bent
from wormways.fewest import fewest
from wormways.going import Going
from wormways.notes import written
from wormways.orders import knot, needs, order, shows


def handed_lanes(net, table, lanes, paper=(), room=1):
    given = (net, table, lanes)
    return (lambda: needs(*given), lambda: order(*given), lambda: knot(*given),
            lambda: shows(*given, list(paper)), lambda: Going(*given, room))


def handed_tables(net, table, lanes, paper=(), room=1):
    return (*handed_lanes(net, table, lanes, paper, room), lambda: fewest(net, table), lambda: written(net, table))


def handed_nets(net, table, lanes, paper=(), room=1, fallen=(), root=0):
    return (*handed_tables(net, table, lanes, paper, room), lambda: bent(net, list(fallen), root))
