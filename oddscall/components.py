"""Components of finite graphs: nodes that lead to each other, in the order in which they rest on each other."""

from heapq import heappop, heappush


def ordered_components(leads):
    """Return the list of the components of a graph, each a tuple of its nodes in ascending order.

    A dict gives the list of the nodes to which each node leads. A component comes behind all others to which its
    nodes lead; of several that could come next, it is the one with the least node.
    """
    names = least_members(leads)
    members = {}
    for node in sorted(leads):
        members.setdefault(names[node], []).append(node)
    users = {name: [] for name in members}
    waits = {name: 0 for name in members}
    for name, nodes in members.items():
        for other in sorted({names[after] for node in nodes for after in leads[node]}):
            if other != name:
                users[other].append(name)
                waits[name] += 1
    ready = [name for name in sorted(members) if waits[name] == 0]
    found = []
    while ready:
        name = heappop(ready)
        found.append(tuple(members[name]))
        for user in users[name]:
            waits[user] -= 1
            if waits[user] == 0:
                heappush(ready, user)
    return found


def is_looped(component, leads):
    """Return True if the nodes of the component lead to themselves."""
    return len(component) > 1 or component[0] in leads[component[0]]


def least_members(leads):
    """Return a dict with the least node of the component of each node."""
    sources = {node: [] for node in leads}
    for node, others in leads.items():
        for other in others:
            sources[other].append(node)
    names = {}
    for start in reversed(left_nodes(leads)):
        if start not in names:
            component = nodes_behind(start, sources, names)
            least = min(component)
            for node in component:
                names[node] = least
    return names


def left_nodes(leads):
    """Return the list of all nodes in the order in which a search in depth leaves them."""
    seen = {}
    found = []
    waiting = [(node, False) for node in leads]
    while waiting:
        node, left = waiting.pop()
        if left:
            found.append(node)
        elif node not in seen:
            seen[node] = True
            waiting.append((node, True))
            waiting.extend([(other, False) for other in leads[node] if other not in seen])
    return found


def nodes_behind(start, sources, names):
    """Return the list of the nodes that lead to the start, without those that have a name."""
    found = {start: True}
    waiting = [start]
    while waiting:
        node = waiting.pop()
        for other in sources[node]:
            if other not in names and other not in found:
                found[other] = True
                waiting.append(other)
    return list(found)
