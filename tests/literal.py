"""Graphs by the words of the document alone (points 19 to 24), slowly: what the program is compared with."""

from everyweave.threads import advance, begin, event_of, is_cut, pending

READERS = ("load", "update", "miss", "await")
WRITERS = ("store", "update")


def empty(program):
    return ((), (), ((),) * (len(program[0]) + program[1] + 1))


def threads_of(program, graph):
    """The threads that have begun, as they stand behind their events."""
    found = {number: begin(program, number, *pair) for number, pair in enumerate(program[3])}
    left = list(graph[0])
    while left:
        for event in left:
            if event[0] in found and found[event[0]].steps == event[1]:
                thread = found[event[0]]
                if event[2] == "spawn":
                    found[event[3]] = begin(program, event[3], pending(program, thread)[2], event[5])
                found[event[0]] = advance(program, thread, event)
                left.remove(event)
                break
    return found


def arrows_of(program, graph):
    """The arrows between events, as pairs of pairs."""
    events, sources, orders = graph
    known = {event[:2]: event for event in events}
    threads = threads_of(program, graph)
    spawns = {event[3]: event[:2] for event in events if event[2] == "spawn"}
    arrows = {((t, n), (t, n + 1)) for t, n in known if (t, n + 1) in known}
    arrows |= {(spawn, (t, 0)) for t, spawn in spawns.items() if (t, 0) in known}
    for event in events:
        if event[2] == "join":
            t = event[3]
            if threads[t].steps > 0:
                arrows.add(((t, threads[t].steps - 1), event[:2]))
            elif t in spawns:
                arrows.add((spawns[t], event[:2]))
    for reader, writer in sources:
        if writer is not None and not program[0][known[reader][3]][1]:
            arrows.add((writer, reader))
    for order in orders[len(program[0]):]:
        arrows |= set(zip(order, order[1:]))
    return arrows


def comes_before_of(program, graph):
    """The pairs of events of which the first one comes before the second one."""
    arrows = arrows_of(program, graph)
    found = set(arrows)
    new = found
    while new:
        new = {(a, d) for a, b in new for c, d in arrows if b == c} - found
        found |= new
    return found


def broken(program, graph):
    """The numbers, from 1 to 5 in the order of the document, of the ways in which the graph is not consistent."""
    events, sources, orders = graph
    before = comes_before_of(program, graph)
    known = {event[:2]: event for event in events}
    found = {1 for first, second in before if first == second}
    for order in orders[:len(program[0])]:
        for at, writer in enumerate(order):
            found |= {2 for other in order[:at] if (writer, other) in before}
    for reader, writer in sources:
        order = orders[known[reader][3]]
        later = order if writer is None else order[order.index(writer) + 1:]
        found |= {3 for pair in before if pair == (reader, writer)}
        found |= {4 for other in later if (other, reader) in before}
        if known[reader][2] == "update":
            ahead = order[:order.index(reader)]
            found |= {5 for last in [ahead[-1] if ahead else None] if last != writer}
    return found


def with_event(graph, event, source, index, place):
    """The graph with one event more; source is a tuple of nothing or of a writer."""
    events, sources, orders = graph
    orders = list(orders)
    if index is not None:
        orders[index] = (*orders[index][:place], event[:2], *orders[index][place:])
    more = tuple((event[:2], writer) for writer in source)
    return (tuple(sorted((*events, event))), tuple(sorted((*sources, *more))), tuple(orders))


def candidates(program, graph):
    """The graphs with one event more, consistent or not."""
    threads = threads_of(program, graph)
    known = {event[:2]: event for event in graph[0]}
    for number, thread in threads.items():
        if thread.how is not None or is_cut(thread):
            continue
        instruction = pending(program, thread)
        word = instruction[0]
        if word in ("load", "swap", "fetch", "cas", "await"):
            variable = instruction[2]
            for writer in (None, *graph[2][variable]):
                value = program[0][variable][0] if writer is None else known[writer][5]
                event = event_of(thread, instruction, value)
                if event[2] == "await" and value != thread.registers[instruction[3]]:
                    continue
                if event[2] == "update":
                    place = 0 if writer is None else graph[2][variable].index(writer) + 1
                    yield with_event(graph, event, (writer,), variable, place)
                else:
                    yield with_event(graph, event, (writer,), None, None)
            continue
        event = event_of(thread, instruction, None)
        if word == "store":
            for place in range(len(graph[2][instruction[1]]) + 1):
                yield with_event(graph, event, (), instruction[1], place)
        elif word in ("lock", "unlock"):
            index = len(program[0]) + instruction[1]
            order = graph[2][index]
            if word == "unlock" or not order or known[order[-1]][2] == "unlock":
                yield with_event(graph, event, (), index, len(order))
        elif word == "fence":
            yield with_event(graph, event, (), -1, len(graph[2][-1]))
        elif word == "join":
            if event[3] in threads and threads[event[3]].how is not None:
                yield with_event(graph, event, (), None, None)
        else:
            yield with_event(graph, event, (), None, None)


def grown(program, graph):
    """The set of the graphs that the graph grows to by one event."""
    return {other for other in candidates(program, graph) if not broken(program, other)}


def all_graphs(program, most=10 ** 9):
    """A dict from all graphs that the empty graph grows to, to those that each grows to by one event."""
    found = {}
    waiting = [empty(program)]
    while waiting and len(found) <= most:
        graph = waiting.pop()
        if graph not in found:
            found[graph] = grown(program, graph)
            waiting.extend(found[graph])
    return found


def whole_graphs(program):
    return {graph for graph, more in all_graphs(program).items() if not more}


def sort_key(graph):
    """Graphs in the order of the document, in which None is less than everything."""
    if isinstance(graph, tuple):
        return (1, tuple(sort_key(part) for part in graph))
    return (0,) if graph is None else (1, graph)


def end_of(program, graph):
    events, _, orders = graph
    known = {event[:2]: event for event in events}
    rows = []
    for number, thread in sorted(threads_of(program, graph).items()):
        how = thread.how or ("cut" if is_cut(thread) else "waiting")
        rows.append((number, how, tuple(thread.registers)))
    values = [known[order[-1]][5] if order else first for (first, _), order in zip(program[0], orders)]
    holders = [order[-1][0] if order and known[order[-1]][2] == "lock" else None
               for order in orders[len(program[0]):-1]]
    return (tuple(rows), tuple(values), tuple(holders))


def races_of(program, graph):
    before = comes_before_of(program, graph)
    found = set()
    for first in graph[0]:
        for second in graph[0]:
            if first[0] < second[0] and first[2] in ("load", "store") and second[2] in ("load", "store"):
                if first[3] == second[3] and program[0][first[3]][1] and "store" in (first[2], second[2]):
                    if not {(first[:2], second[:2]), (second[:2], first[:2])} & before:
                        found.add((first[3], first[0], second[0]))
    return found


def things_of(program, graph):
    """The told things other than ends that hold for a whole graph."""
    found = {("race", *race) for race in races_of(program, graph)}
    for number, how, _ in end_of(program, graph)[0]:
        if how == "cut":
            found.add(("cut", number))
        elif how == "waiting":
            found.add(("standstill",))
        elif how != "finished":
            found.add(("failed", number, how))
    return found
