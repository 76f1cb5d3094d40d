"""Greatest sums on the ways through a graph.

A graph is a dict from each node to a dict from each node behind it to what the step there gains. No
step leads back to the node at which the ways start.
"""


def _raise_once(graph, sums, ahead, risen):
    """Raise the sums by each step from the nodes that have risen; return the dict of those that rise by this."""
    after = {}
    for node in risen:
        for goal, gain in graph[node].items():
            if goal not in sums or sums[node] + gain > sums[goal]:
                sums[goal] = sums[node] + gain
                ahead[goal] = node
                after[goal] = True
    return after


def _ring_among(ahead):
    """Return a ring that the nodes ahead make up, its first node again at its end; or None."""
    begun = {}
    for begin in ahead:
        node = begin
        while node in ahead and node not in begun:
            begun[node] = begin
            node = ahead[node]
        if node in begun and begun[node] == begin:
            backwards = [node, ahead[node]]
            while backwards[-1] != node:
                backwards.append(ahead[backwards[-1]])
            return backwards[::-1]
    return None


def _climbed(graph, start):
    """Return the greatest sums, the nodes ahead and None, or, if there are ever greater ones, a ring as third."""
    sums, ahead, risen, ring = {start: 0}, {}, {start: True}, None
    # As long as the nodes ahead make up no ring, a sum is at most that of the way back to start. So
    # in the end either nothing rises, or there is a ring; and a node is only noted as ahead if its
    # step raises, so that a ring gains.
    while len(risen) > 0 and ring is None:
        risen = _raise_once(graph, sums, ahead, risen)
        ring = _ring_among(ahead)
    return sums, ahead, ring


def way_back(ahead, node):
    """Return the way to a node along the nodes ahead, from the first one that has none ahead."""
    backwards = [node]
    while backwards[-1] in ahead:
        backwards.append(ahead[backwards[-1]])
    return backwards[::-1]


def greatest_sums(graph, start):
    """Return the greatest sum of a way to each node that start leads to, and the nodes ahead on such ways.

    Return None if there are ever greater ones.
    """
    sums, ahead, ring = _climbed(graph, start)
    return (sums, ahead) if ring is None else None


def gaining_ring(graph, start):
    """Return a ring that start leads to and that gains, its first node again at its end; or None."""
    return _climbed(graph, start)[2]


def first_way(graph, start, goal):
    """Return a way from start to another node that it leads to, with as few steps as can be."""
    ahead, row = {}, [start]
    while goal not in ahead:
        after = []
        for node in row:
            for near in graph[node]:
                if near not in ahead:
                    ahead[near] = node
                    after.append(near)
        row = after
    return way_back(ahead, goal)
