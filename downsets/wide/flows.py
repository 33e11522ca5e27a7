"""Units of places linked to units of other places, as many as can be.

For heaviest flat lots each place has as many units as it weighs. The units of
a place are linked to units of places behind it, each unit to at most one behind
and one ahead; the links are as many as can be, so that the units lie on as few
chains as can be. Here all places are told by their indices.
"""

from downsets.base.checks import spots


def flat_and_chains(order, weights):
    """Return a heaviest flat lot, and chains whose values sum to its weight.

    The weights stand in a list, each at least 1. The lot is told by its bits,
    the chains are a dict from the bits of each to its value.
    """
    links, free, _ = greatest_links(weights, weights, order.behind_bits)
    givers, takers = reached(free, order.behind_bits, links)
    flat = sum([1 << k for k in range(len(weights)) if k in givers and k not in takers])
    return flat, chains_along(weights, links)


def greatest_links(giving, taking, rows):
    """Return as many links as can be, and the units of givers and takers that stay free.

    The first lists tell how many units each place can give, and how many it can
    take. Links are a dict from (giver, taker) to a number; each row has the
    bits of those that may take from one.
    """
    free = list(giving)
    room = list(taking)
    links = {}
    way = way_to_room(free, room, rows, links)
    while way:
        first, last = way[-1][0], way[0][1]
        many = min([free[first], room[last]] + [links[link] for link in way[1::2]])
        for k in range(len(way)):
            links[way[k]] = links.get(way[k], 0) + (many if k & 1 == 0 else -many)
        free[first] = free[first] - many
        room[last] = room[last] - many
        way = way_to_room(free, room, rows, links)
    return links, free, room


def way_to_room(free, room, rows, links):
    """Return the links from free units to a taker with room, the last one first, or none."""
    givers, takers = reached(free, rows, links)
    ends = [at for at in takers if room[at] > 0]
    return way_back(givers, takers, ends[0]) if ends else []


def reached(free, rows, links):
    """Return the dicts of the givers and takers that free units lead to.

    Each one has the one from which it was reached first; givers that have free
    units themselves have None.
    """
    givers = {k: None for k in range(len(free)) if free[k] > 0}
    takers = {}
    edge = list(givers)
    while edge:
        found = []
        for k in list(edge):
            for at in spots(rows[k]):
                if at not in takers:
                    takers[at] = k
                    found.append(at)
        edge = []
        for at in list(found):
            for k in range(len(free)):
                if k not in givers and links.get((k, at), 0) > 0:
                    givers[k] = at
                    edge.append(k)
    return givers, takers


def way_back(givers, takers, last):
    """Return the links that lead to a taker, the last one first.

    Every second one is a link that is taken back.
    """
    way = []
    at = last
    while at is not None:
        giver = takers[at]
        way.append((giver, at))
        at = givers[giver]
        if at is not None:
            way.append((giver, at))
    return way


def chains_along(weights, links):
    """Return the dict from the bits of chains to how many units go along each."""
    spans = range(len(weights))
    left = {link: links[link] for link in links}
    begins = [weights[k] - sum([left.get((at, k), 0) for at in spans]) for k in spans]
    ends = [weights[k] - sum([left.get((k, at), 0) for at in spans]) for k in spans]
    chains = {}
    for start in spans:
        while begins[start] > 0:
            way = way_on(start, left, ends)
            steps = [(way[k], way[k + 1]) for k in range(len(way) - 1)]
            many = min([begins[start], ends[way[-1]]] + [left[step] for step in steps])
            for step in steps:
                left[step] = left[step] - many
            begins[start] = begins[start] - many
            ends[way[-1]] = ends[way[-1]] - many
            bits = sum([1 << k for k in way])
            chains[bits] = chains.get(bits, 0) + many
    return chains


def way_on(start, left, ends):
    """Return a way along links that are left, to the first place where units end."""
    way = [start]
    while ends[way[-1]] == 0:
        way.append([at for k, at in sorted(left) if k == way[-1] and left[(k, at)] > 0][0])
    return way
