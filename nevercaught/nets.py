"""A greatest flow through the grid of a board, and the wall that it shows.

A node is a cell of the grid: a lot of columns within a lot of rows. The room of an edge tells how much more may go by
it; edges have the numbers 4 node + d, d being 0 to the right, 1 to the left, 2 up, 3 down.
"""

from nevercaught.grids import BURNT, HELD, PASSED, PLAIN

NOT_FOUND = -1


class Net:
    """Nodes in rows of one width, with a node beyond the box at the end of each row, and a row of them on each side."""

    def __init__(self, grid):
        self.unit = grid.unit
        self.width = len(grid.columns) + 1
        self.marks = node_marks(grid)
        self.room = first_room(grid)
        self.hops = (1, -1, self.width, -self.width)
        self.backs = (5, -5, 4 * self.width + 1, -4 * self.width - 1)
        self.rest = first_rest(self.marks, grid)
        self.rims = rims_of(self.marks, self.hops)


def node_marks(grid):
    """The mark of each node; those beyond the box take what comes, as passed ones do."""
    width = len(grid.columns) + 1
    marks = [PASSED] * width
    for row in grid.rows:
        marks.extend([grid.marks.get((column[0], row[0]), PLAIN) for column in grid.columns])
        marks.append(PASSED)
    marks.extend([PASSED] * width)
    return marks


def first_room(grid):
    """The room of all edges where each row is full from the left half to beyond the box, and nothing else goes."""
    beyond = 4 * (len(grid.columns) + 1)
    room = [0] * beyond
    for row in grid.rows:
        tall = row[1]
        for x, wide in grid.columns:
            # The left half gives what is due of the squares with x = 0: nothing goes back there.
            back = 2 * grid.unit * tall if x > 0 else 0
            room.extend([0, back, grid.unit * wide, grid.unit * wide])
        room.extend([0, 0, 0, 0])
    room.extend([0] * beyond)
    return room


def first_rest(marks, grid):
    """For each node that gives: how much more may go out of it. Held ones have more than can go by their sides."""
    most = 9 * grid.unit * grid.wide * grid.tall
    rest = {}
    for node, mark in enumerate(marks):
        if mark == BURNT:
            rest[node] = 2 * grid.unit + 1
        elif mark == HELD:
            rest[node] = most
    return rest


def rims_of(marks, hops):
    """The edges that lead from other nodes to those that are passed or beyond the box."""
    rims = []
    for node, mark in enumerate(marks):
        if mark != PASSED:
            rims.extend([4 * node + d for d, hop in enumerate(hops) if marks[node + hop] == PASSED])
    return rims


def fill(net):
    """Lets as much go as can, always by ways that are shortest."""
    giving = list(net.rest)
    while giving:
        depth = depths(net, giving)
        # A node from which nothing can go now has no way later either.
        giving = [node for node in giving if depth[node] != NOT_FOUND]
        for node in giving:
            drain(net, depth, node)
        giving = [node for node in giving if net.rest[node]]


def depths(net, giving):
    """How many edges with room it takes from each node to one that takes, as far as the giving ones need to know."""
    room = net.room
    depth = [0 if mark == PASSED else NOT_FOUND for mark in net.marks]
    found = []
    for edge in net.rims:
        if room[edge] and depth[edge // 4] == NOT_FOUND:
            depth[edge // 4] = 1
            found.append(edge // 4)
    waiting = [node for node in giving if depth[node] == NOT_FOUND]
    far = 1
    while found and waiting:
        far += 1
        found = one_farther(room, depth, found, far, net.width)
        waiting = [node for node in waiting if depth[node] == NOT_FOUND]
    return depth


def one_farther(room, depth, found, far, width):
    """Marks the nodes with an edge with room to those found last, and tells them."""
    later = []
    for node in found:
        other = node - 1
        if depth[other] == NOT_FOUND and room[4 * other]:
            depth[other] = far
            later.append(other)
        other = node + 1
        if depth[other] == NOT_FOUND and room[4 * other + 1]:
            depth[other] = far
            later.append(other)
        other = node - width
        if depth[other] == NOT_FOUND and room[4 * other + 2]:
            depth[other] = far
            later.append(other)
        other = node + width
        if depth[other] == NOT_FOUND and room[4 * other + 3]:
            depth[other] = far
            later.append(other)
    return later


def drain(net, depth, source):
    """Lets go from a node what can go by ways on which each edge leads one less deep."""
    room = net.room
    width = net.width
    path = []
    node = source
    while net.rest[source]:
        edge = 4 * node
        less = depth[node] - 1
        if less == NOT_FOUND:
            node = pushed(net, path, source)
        elif room[edge] and depth[node + 1] == less:
            path.append(edge)
            node += 1
        elif room[edge + 1] and depth[node - 1] == less:
            path.append(edge + 1)
            node -= 1
        elif room[edge + 2] and depth[node + width] == less:
            path.append(edge + 2)
            node += width
        elif room[edge + 3] and depth[node - width] == less:
            path.append(edge + 3)
            node -= width
        elif path:
            depth[node] = NOT_FOUND
            node = path.pop() // 4
        else:
            return


def pushed(net, path, source):
    """Lets go all that can go by the path, cuts it at its first edge that is full now, and tells the node there."""
    room = net.room
    amount = min(net.rest[source], min([room[edge] for edge in path]))
    net.rest[source] -= amount
    for edge in path:
        room[edge] -= amount
        room[edge + net.backs[edge % 4]] += amount
    full = 0
    while full < len(path) - 1 and room[path[full]]:
        full += 1
    node = path[full] // 4
    del path[full:]
    return node


def come_to(net):
    """The nodes of the wall: those with something left to give, and all to which one comes from them."""
    room = net.room
    inside = {node: True for node in net.rest if net.rest[node]}
    found = list(inside)
    while found:
        node = found.pop()
        for d, hop in enumerate(net.hops):
            other = node + hop
            if room[4 * node + d] and other not in inside:
                inside[other] = True
                found.append(other)
    return inside
