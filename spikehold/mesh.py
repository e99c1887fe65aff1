"""The mesh: routers that are joined in rows and columns, and the packets that they pass on."""

# A router looks at its queues in this order.
QUEUES = ("north", "south", "west", "east", "core")
# A packet that goes one way comes from the other one.
ORIGINS = {"north": "south", "south": "north", "west": "east", "east": "west"}


class Mesh:
    """The number of columns and rows of the routers, and the room of their queues."""

    def __init__(self, width, height, room):
        self.width = width
        self.height = height
        self.room = room

    def __eq__(self, other):
        return (
            isinstance(other, Mesh)
            and self.width == other.width
            and self.height == other.height
            and self.room == other.room
        )

    def cores(self):
        """Return the number of cores: one at each router."""
        return self.width * self.height


class Traffic:
    """The packets in the outboxes and in the queues of a mesh. At first there are none."""

    def __init__(self, mesh):
        self.mesh = mesh
        self.outboxes = [[] for _ in range(mesh.cores())]
        self.queues = [{name: [] for name in QUEUES} for _ in range(mesh.cores())]

    def put(self, core, packet):
        """Append a packet, a tuple (destination, source), to the outbox of a core."""
        self.outboxes[core].append(packet)

    def cycle(self):
        """Do one cycle, and return the deliveries in ascending order of the cores."""
        # Everything is chosen before anything moves: all routers act on the state at the beginning.
        moves = _moves(self.mesh, self.queues)
        entering = _entering(self.mesh, self.queues, self.outboxes)
        deliveries = []
        for core, name, going in moves:
            packet = self.queues[core][name].pop(0)
            if going == "home":
                deliveries.append((core, packet[1]))
            else:
                self.queues[_neighbour(self.mesh, core, going)][ORIGINS[going]].append(packet)
        for core in entering:
            self.queues[core]["core"].append(self.outboxes[core].pop(0))
        return deliveries

    def waiting(self):
        """Return the number of packets in the outboxes and in the queues."""
        queued = sum([len(queue) for queues in self.queues for queue in queues.values()])
        return queued + sum([len(outbox) for outbox in self.outboxes])


def distance(mesh, first, second):
    """Return the number of steps from router to router between two cores."""
    row, column = divmod(first, mesh.width)
    to_row, to_column = divmod(second, mesh.width)
    return abs(to_row - row) + abs(to_column - column)


def way(mesh, core, destination):
    """Return the way of a packet at the router of a core."""
    row, column = divmod(core, mesh.width)
    to_row, to_column = divmod(destination, mesh.width)
    if to_column < column:
        return "west"
    if to_column > column:
        return "east"
    if to_row < row:
        return "north"
    if to_row > row:
        return "south"
    return "home"


def deliver(mesh, packets):
    """Return the number of cycles that packets (core, destination, source) need, and their deliveries in order."""
    cycles, deliveries, _ = deliver_within(mesh, packets, None)
    return cycles, deliveries


def deliver_within(mesh, packets, most):
    """Deliver packets as `deliver` does, but in at most so many cycles; None stands for no bound.

    Return the number of cycles, the deliveries in order, and the number of packets that still wait.
    """
    traffic = Traffic(mesh)
    for core, destination, source in packets:
        traffic.put(core, (destination, source))
    cycles = 0
    deliveries = []
    while traffic.waiting() > 0 and (most is None or cycles < most):
        deliveries.extend(traffic.cycle())
        cycles += 1
    return cycles, deliveries, traffic.waiting()


def _moves(mesh, queues):
    """Return the moves of a cycle, tuples (core, name of the queue, way), in ascending order of the cores."""
    moves = []
    for core, own_queues in enumerate(queues):
        chosen = _chosen(mesh, core, own_queues)
        for going, name in chosen.items():
            if going == "home" or _has_room(mesh, queues[_neighbour(mesh, core, going)][ORIGINS[going]]):
                moves.append((core, name, going))
    return moves


def _chosen(mesh, core, own_queues):
    """Return for each way that a first packet wants the name of the queue that is chosen for it."""
    chosen = {}
    for name in QUEUES:
        if own_queues[name]:
            destination = own_queues[name][0][0]
            chosen.setdefault(way(mesh, core, destination), name)
    return chosen


def _entering(mesh, queues, outboxes):
    """Return the cores whose outbox gives its first packet to the queue of the core."""
    return [core for core, outbox in enumerate(outboxes) if outbox and _has_room(mesh, queues[core]["core"])]


def _has_room(mesh, queue):
    """Return whether a queue can take a packet."""
    return len(queue) < mesh.room


def _neighbour(mesh, core, going):
    """Return the router that lies one step in a direction."""
    if going == "west":
        return core - 1
    if going == "east":
        return core + 1
    if going == "north":
        return core - mesh.width
    return core + mesh.width
