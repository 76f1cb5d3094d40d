"""Greatest sums on the ways through a graph.

A graph is a dict from each node to a dict from each node behind it to what the step there gains. No
step leads back to the node at which the ways start.
"""


def _raise_once(graph, sums, ahead):
    """Raise the sums by each step once, noting the node ahead; return a node that it raised, or None."""
    raised = None
    for node in graph:
        if node in sums:
            for goal, gain in graph[node].items():
                if goal not in sums or sums[node] + gain > sums[goal]:
                    sums[goal] = sums[node] + gain
                    ahead[goal] = node
                    raised = goal
    return raised


def _climbed(graph, start):
    """Return the sums that are reached from start, the nodes ahead, and a node that still rises, or None."""
    sums, ahead, raised = {start: 0}, {}, start
    for _ in graph:
        raised = _raise_once(graph, sums, ahead)
        if raised is None:
            break
    return sums, ahead, raised


def way_back(ahead, node):
    """Return the way to a node along the nodes ahead, from the first one that has none ahead."""
    backwards = [node]
    while backwards[-1] in ahead:
        backwards.append(ahead[backwards[-1]])
    return backwards[::-1]


def greatest_sums(graph, start):
    """Return the greatest sum of a way to each node that start leads to, and the nodes ahead on such ways.

    Return None if there are ever greater ones.
    """
    sums, ahead, raised = _climbed(graph, start)
    return (sums, ahead) if raised is None else None


def gaining_ring(graph, start):
    """Return a ring that start leads to and that gains, its first node again at its end; or None."""
    _, ahead, raised = _climbed(graph, start)
    if raised is None:
        return None
    # A node that rises after as many rounds as there are nodes has a ring among those ahead of it,
    # and as many steps back lead into it; a node is only noted as ahead if it raises, so it gains.
    for _ in graph:
        raised = ahead[raised]
    backwards = [raised, ahead[raised]]
    while backwards[-1] != raised:
        backwards.append(ahead[backwards[-1]])
    return backwards[::-1]


def first_way(graph, start, goal):
    """Return a way from start to another node that it leads to, with as few steps as can be."""
    ahead, row = {}, [start]
    while goal not in ahead:
        after = []
        for node in row:
            for near in graph[node]:
                if near not in ahead:
                    ahead[near] = node
                    after.append(near)
        row = after
    return way_back(ahead, goal)
