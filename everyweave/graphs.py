"""Executions as graphs: how a graph grows, which whole graphs there are, and what they tell."""

from everyweave.errors import BadArgument, BadGraph, TooLarge
from everyweave.programs import check_program, is_row
from everyweave.things import end_order, told_of_threads
from everyweave.threads import MOST_STEPS, READERS, advance, begin, event_of, pending, rows_of

MOST_GRAPHS = 1500

# The kinds of events that have a source, that stand in the order of a variable, and in that of a lock.
READS = ("load", "update", "miss", "await")
WRITES = ("store", "update")
HOLDS = ("lock", "unlock")


class Execution:
    """A graph that the empty graph grows to, and what follows from it.

    A new event comes before no other one. So what comes before an event is known when the graph
    grows by it and never changes, and a growth makes no event come before itself and no reader
    before its writer.
    """

    def __init__(self, program):
        self.program = program
        self.threads = {}
        # The pair of the spawn of each thread that was spawned.
        self.births = {}
        self.events = {}
        self.sources = {}
        self.orders = [()] * (len(program[0]) + program[1] + 1)
        # The bits of each event and of those that come before it.
        self.pasts = {}

    def graph(self):
        """The graph as a tuple of events, sources and orders."""
        events = tuple(sorted(self.events.values()))
        return (events, tuple(sorted(self.sources.items())), tuple(self.orders))

    def all_moves(self):
        """The moves of all threads."""
        return [move for number in sorted(self.threads) for move in self.moves(number)]

    def moves(self, number):
        """What a thread can make next: each time the event, the writer that it reads, and its place in an order."""
        thread = self.threads[number]
        instruction = pending(self.program, thread)
        if instruction is None:
            return []
        if instruction[0] in READERS:
            return self._readings(thread, instruction)
        event = event_of(thread, instruction, None)
        if event[2] == "store":
            places = self._places(number, event[3])
            return [(event, None, place) for place in places if self._may_stand(event[3], place)]
        if self._waits(event):
            return []
        index = order_of(self.program, event)
        return [(event, None, None if index is None else len(self.orders[index]))]

    def grown(self, move):
        """Another execution, which has grown by the move."""
        event, writer, place = move
        pair = event[:2]
        other = self._twin()
        other.events[pair] = event
        other.pasts[pair] = bit_of(pair) | self._past(event, writer)
        if event[2] in READS:
            other.sources[pair] = writer
        if place is not None:
            other.orders[order_of(self.program, event)] = self.order_behind(move)
        thread = self.threads[event[0]]
        if event[2] == "spawn":
            child = event[3]
            other.births[child] = pair
            other.threads[child] = begin(self.program, child, pending(self.program, thread)[2], event[5])
        other.threads[event[0]] = advance(self.program, thread, event)
        return other

    def order_behind(self, move):
        """The order in which the move puts its event, with this event."""
        event, _, place = move
        order = self.orders[order_of(self.program, event)]
        return (*order[:place], event[:2], *order[place:])

    def is_before(self, first, second):
        """True if the event of the first pair comes before that of the second one."""
        return first != second and self.pasts[second] & bit_of(first) != 0

    def end(self):
        """The threads, the values and the locks, as the end of a run tells them."""
        many = len(self.program[0])
        values = tuple([self._value_at(variable, len(self.orders[variable])) for variable in range(many)])
        return (rows_of(self.threads), values, tuple([self._holder(order) for order in self.orders[many:-1]]))

    def _twin(self):
        other = Execution(self.program)
        other.threads = dict(self.threads)
        other.births = dict(self.births)
        other.events = {pair: self.events[pair] for pair in self.events}
        other.sources = {pair: self.sources[pair] for pair in self.sources}
        other.orders = list(self.orders)
        other.pasts = {pair: self.pasts[pair] for pair in self.pasts}
        return other

    def _readings(self, thread, instruction):
        """The moves of a thread that comes to an instruction that reads a variable."""
        found = []
        variable = instruction[2]
        awaited = thread.registers[instruction[3]] if instruction[0] == "await" else None
        for place in self._places(thread.number, variable):
            value = self._value_at(variable, place)
            writer = self.orders[variable][place - 1] if place > 0 else None
            event = event_of(thread, instruction, value)
            if event[2] == "update":
                if self._may_stand(variable, place):
                    found.append((event, writer, place))
            elif awaited is None or awaited == value:
                found.append((event, writer, None))
        return found

    def _places(self, number, variable):
        """The places in the order of the variable that are behind all writers before the thread's next event.

        It may store at them, or read what stands directly ahead of them. That a reader has what comes
        before its writer before it, too, changes nothing: no later writer is among that.
        """
        past = self._ahead(number)
        order = self.orders[variable]
        least = len(order)
        while least > 0 and past & bit_of(order[least - 1]) == 0:
            least -= 1
        return list(range(least, len(order) + 1))

    def _may_stand(self, variable, place):
        """False if a writer at the place would part an update from its writer."""
        order = self.orders[variable]
        return place == len(order) or self.events[order[place]][2] != "update"

    def _value_at(self, variable, place):
        """What stands directly ahead of the place in the order of the variable has put this value there."""
        if place == 0:
            return self.program[0][variable][0]
        return self.events[self.orders[variable][place - 1]][5]

    def _waits(self, event):
        if event[2] == "lock":
            return self._holder(self.orders[order_of(self.program, event)]) is not None
        if event[2] == "join":
            return event[3] not in self.threads or self.threads[event[3]].how is None
        return False

    def _holder(self, order):
        """The thread that holds the lock with this order, or None."""
        if len(order) == 0 or self.events[order[-1]][2] == "unlock":
            return None
        return order[-1][0]

    def _ahead(self, number):
        """The bits of what comes before the next event of a thread, or before a join of it if it has ended."""
        steps = self.threads[number].steps
        if steps > 0:
            return self.pasts[(number, steps - 1)]
        return self.pasts[self.births[number]] if number in self.births else 0

    def _past(self, event, writer):
        """The bits of what comes before a new event that reads from the writer, unless that is None."""
        past = self._ahead(event[0])
        if writer is not None and not self.program[0][event[3]][1]:
            past |= self.pasts[writer]
        elif event[2] == "join":
            past |= self._ahead(event[3])
        elif event[2] in HOLDS or event[2] == "fence":
            order = self.orders[order_of(self.program, event)]
            if len(order) > 0:
                past |= self.pasts[order[-1]]
        return past


class Aim:
    """What is said to be a graph, and which growths lead to it."""

    def __init__(self, graph):
        events, sources, orders = graph
        self.events = {event[:2]: event for event in events}
        self.writers = {reader: writer for reader, writer in sources}
        self.orders = orders

    def next_move(self, execution, number):
        """The move of the thread that leads to the graph, or None."""
        for move in execution.moves(number):
            if self._has(move) and (move[2] is None or self._orders_like(execution, move)):
                return move
        return None

    def _has(self, move):
        event, writer, _ = move
        pair = event[:2]
        return self.events.get(pair) == event and self.writers.get(pair) == writer

    def _orders_like(self, execution, move):
        order = execution.order_behind(move)
        aimed = self.orders[order_of(execution.program, move[0])]
        if move[0][2] in WRITES:
            # Other writers may get their places between these later.
            return [pair for pair in aimed if pair in order] == list(order)
        return aimed[:len(order)] == order


def bit_of(pair):
    """The bit of the event with this thread and number."""
    return 1 << (MOST_STEPS * pair[0] + pair[1])


def order_of(program, event):
    """The index of the order in which the event stands, or None."""
    if event[2] in WRITES:
        return event[3]
    if event[2] in HOLDS:
        return len(program[0]) + event[3]
    return len(program[0]) + program[1] if event[2] == "fence" else None


def first_execution(program):
    """The execution without events."""
    check_program(program)
    execution = Execution(program)
    for number, (code, argument) in enumerate(program[3]):
        execution.threads[number] = begin(program, number, code, argument)
    return execution


def whole_executions(program):
    """All whole executions, if there are not too many in all."""
    found = [first_execution(program)]
    seen = set()
    seen.add(found[0].graph())
    whole_ones = []
    looked_at = 0
    while looked_at < len(found):
        execution = found[looked_at]
        looked_at += 1
        moves = execution.all_moves()
        if len(moves) == 0:
            whole_ones.append(execution)
        for move in moves:
            other = execution.grown(move)
            graph = other.graph()
            if graph not in seen:
                if len(found) == MOST_GRAPHS:
                    raise TooLarge(f"the empty graph grows to more than {MOST_GRAPHS} graphs")
                seen.add(graph)
                found.append(other)
    return whole_ones


def rebuilt(program, graph):
    """The execution that is the graph, or None if the empty graph does not grow to it."""
    execution = first_execution(program)
    if not has_form(graph, len(execution.orders)):
        return None
    # In whatever order the threads make the events of a graph, it grows to the same one.
    aim = Aim(graph)
    grows = True
    while grows:
        grows = False
        for number in sorted(execution.threads):
            move = aim.next_move(execution, number)
            if move is not None:
                execution = execution.grown(move)
                grows = True
    return execution if is_same(execution.graph(), graph) else None


def has_form(graph, many_orders):
    """True for a triple that can be looked through as a graph, whatever its parts tell."""
    if not is_row(graph, 3, 3) or not all([type(part) is tuple for part in graph]):
        return False
    events, sources, orders = graph
    if not all([is_row(event, 6, 6) and is_pair(event[:2]) for event in events]):
        return False
    if not all([is_row(source, 2, 2) and is_pair(source[0]) for source in sources]):
        return False
    return len(orders) == many_orders and all([type(order) is tuple for order in orders])


def is_pair(pair):
    """True for a pair of integers."""
    return is_row(pair, 2, 2) and type(pair[0]) is int and type(pair[1]) is int


def is_same(made, told):
    """True if what was told is what was made, and of the same kinds throughout."""
    if type(made) is tuple and type(told) is tuple:
        return len(made) == len(told) and all([is_same(part, other) for part, other in zip(made, told)])
    return type(made) is type(told) and made == told


def execution_of(program, graph):
    """The execution that is the graph; BadGraph is raised if the empty graph does not grow to it."""
    execution = rebuilt(program, graph)
    if execution is None:
        raise BadGraph("the empty graph does not grow to this")
    return execution


def graph_order(graph):
    """What graphs are sorted by: the first value comes before every writer."""
    events, sources, orders = graph
    return (events, tuple([(reader, () if writer is None else writer) for reader, writer in sources]), orders)


def empty_graph(program):
    """The graph without events."""
    return first_execution(program).graph()


def growths(program, graph):
    """The ascending list of all graphs that the graph grows to by one event."""
    execution = execution_of(program, graph)
    return sorted([execution.grown(move).graph() for move in execution.all_moves()], key=graph_order)


def is_execution(program, graph):
    """True for a graph that the empty graph grows to, and False for anything else."""
    return rebuilt(program, graph) is not None


def comes_before(program, graph, first, second):
    """True if the event of the first pair comes before that of the second one in the graph."""
    execution = execution_of(program, graph)
    for pair in (first, second):
        if not is_pair(pair) or pair not in execution.events:
            raise BadArgument("the graph has no event with this thread and number")
    return execution.is_before(first, second)


def graphs(program):
    """The ascending list of all whole graphs."""
    return sorted([execution.graph() for execution in whole_executions(program)], key=graph_order)


def graph_ends(program):
    """The ascending list of the ends of all whole graphs."""
    found = {execution.end(): True for execution in whole_executions(program)}
    return sorted(found, key=end_order)


def races_of(execution):
    """The ascending list of the races of an execution."""
    plain = [event for event in execution.events.values() if is_plain_access(execution.program, event)]
    found = {}
    for event in plain:
        for other in plain:
            if event[0] < other[0] and event[3] == other[3] and "store" in (event[2], other[2]):
                if not execution.is_before(event[:2], other[:2]) and not execution.is_before(other[:2], event[:2]):
                    found[(event[3], event[0], other[0])] = True
    return sorted(found)


def is_plain_access(program, event):
    """True for a load or a store of a plain variable."""
    return event[2] in ("load", "store") and program[0][event[3]][1]


def graph_races(program, graph):
    """The ascending list of the races of the graph."""
    return races_of(execution_of(program, graph))


def graph_things(program):
    """The ascending list of the told things other than ends that hold for some whole graph."""
    found = {}
    for execution in whole_executions(program):
        told = [("race", *race) for race in races_of(execution)]
        for thing in told + told_of_threads(execution.end()[0], True):
            found[thing] = True
    return sorted(found)
