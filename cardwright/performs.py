"""The graph of the performs of a program (points 511 to 513)."""

from cardwright.statements import inner_statements


def performed(statements):
    found = []
    for statement in statements:
        if statement[0] == "perform":
            found.append((statement[1], statement[2]))
        else:
            found.extend(performed(inner_statements(statement)))
    return found


def graph_of(paragraphs):
    places = {name: at for at, (name, _) in enumerate(paragraphs)}
    graph = []
    for _, statements in paragraphs:
        ranges = [(places[first], places[last]) for first, last in performed(statements)]
        graph.append(tuple(sorted({at for first, last in ranges for at in range(first, last + 1)})))
    return tuple(graph)


def ranks(graph):
    found = {}
    for vertex in _finish_order(graph):
        if not all([other in found for other in graph[vertex]]):
            return None
        found[vertex] = max([found[other] + 1 for other in graph[vertex]], default=0)
    return tuple([found[vertex] for vertex in range(len(graph))])


def circle(graph):
    vertices = _vertices_on_circles(graph)
    return _shortest_circle(graph, min(vertices)) if vertices else ()


def _finish_order(graph):
    """Return all vertices, each of them behind those that its edges lead to, as far as no circle prevents it."""
    order = []
    is_seen = [False] * len(graph)
    # How many edges of a vertex were followed already.
    followed = [0] * len(graph)
    for start in range(len(graph)):
        path = [] if is_seen[start] else [start]
        is_seen[start] = True
        while path:
            at = path[-1]
            if followed[at] == len(graph[at]):
                order.append(path.pop())
                continue
            behind = graph[at][followed[at]]
            followed[at] = followed[at] + 1
            if not is_seen[behind]:
                is_seen[behind] = True
                path.append(behind)
    return order


def _vertices_on_circles(graph):
    """Return the list of the vertices that lie on any circle."""
    found = []
    back = _turned(graph)
    is_seen = [False] * len(graph)
    # Against the edges, and in this order, no way leads out of the vertices that reach each other.
    for start in reversed(_finish_order(graph)):
        party = [] if is_seen[start] else [start]
        is_seen[start] = True
        at = 0
        while at < len(party):
            ahead = [other for other in back[party[at]] if not is_seen[other]]
            for other in ahead:
                is_seen[other] = True
            party.extend(ahead)
            at = at + 1
        if len(party) > 1 or start in graph[start]:
            found.extend(party)
    return found


def _turned(graph):
    back = [[] for _ in graph]
    for vertex, others in enumerate(graph):
        for other in others:
            back[other].append(vertex)
    return back


def _shortest_circle(graph, start):
    """Return a shortest circle that begins at a vertex that lies on one."""
    # From where each vertex was reached first.
    origins = {start: start}
    row = [start]
    at = 0
    while start not in graph[row[at]]:
        ahead = [other for other in graph[row[at]] if other not in origins]
        for other in ahead:
            origins[other] = row[at]
        row.extend(ahead)
        at = at + 1
    way = [row[at]]
    while way[-1] != start:
        way.append(origins[way[-1]])
    return tuple(reversed(way))
