"""Ways along edges: edges has, for each node, the list of the nodes to which edges lead."""


def finish_order(edges):
    """All nodes; each behind those to which it leads, unless these lead back to it."""
    seen = [False] * len(edges)
    order = []
    for root in range(len(edges)):
        todo = [(root, False)]
        while todo:
            node, left = todo.pop()
            if left:
                order.append(node)
            elif not seen[node]:
                seen[node] = True
                todo.append((node, True))
                todo.extend([(further, False) for further in edges[node]])
    return order


def turned_edges(edges):
    """The edges, each led the other way."""
    back = [[] for _ in edges]
    for node, row in enumerate(edges):
        for further in row:
            back[further].append(node)
    return back


def ring_parts(edges):
    """For each node a number; those of two are equal if each leads to the other."""
    back = turned_edges(edges)
    parts = [-1] * len(edges)
    for root in reversed(finish_order(edges)):
        todo = [root]
        while todo:
            node = todo.pop()
            if parts[node] == -1:
                parts[node] = root
                todo.extend([before for before in back[node] if parts[before] == -1])
    return parts


def ring_nodes(edges):
    """The ascending list of the nodes that lead, in steps, to themselves."""
    parts = ring_parts(edges)
    found = []
    for node, row in enumerate(edges):
        # Among nodes of one number each has an edge to another one, or it is alone.
        if any([parts[further] == parts[node] for further in row]):
            found.append(node)
    return found


def ordered_parts(edges):
    """The lists of nodes that lead to each other, each list behind those to which it leads."""
    parts = ring_parts(edges)
    order = finish_order(edges)
    last = {}
    for place, node in enumerate(order):
        last[parts[node]] = place
    members = {}
    for node, part in enumerate(parts):
        members.setdefault(part, []).append(node)
    # What leads on to another part ends behind all of that part.
    return [members[part] for _, part in sorted([(place, part) for part, place in last.items()])]


def lasting_nodes(edges):
    """For each node whether one can go on from it for ever."""
    back = turned_edges(edges)
    waits = [len(row) for row in edges]
    lasts = [True] * len(edges)
    todo = [node for node, wait in enumerate(waits) if wait == 0]
    while todo:
        node = todo.pop()
        lasts[node] = False
        for before in back[node]:
            waits[before] -= 1
            if waits[before] == 0:
                todo.append(before)
    return lasts
