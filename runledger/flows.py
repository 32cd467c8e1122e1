"""Flows: the most that gets through a net, and the ways that make up a flow.

The nodes of a net are numbered from 0. What flows is never sent unit by unit, so that the
steps do not grow with the amounts.
"""


def least_of(numbers):
    """Return the least of the integers."""
    return min([int(number) for number in numbers])


def shortest_ways(heads, around, left):
    """Return the nodes to which something can be sent from node 0, each with the last arc of a shortest way to it."""
    came_by = {0: None}
    newest = [0]
    while newest:
        found = []
        for node in newest:
            for arc in around[node]:
                if left[arc] > 0 and heads[arc] not in came_by:
                    came_by[heads[arc]] = arc
                    found.append(heads[arc])
        newest = found
    return came_by


def way_to(node, came_by, heads):
    """Return the list of the arcs of the way to the node, the last one first."""
    way = []
    while node != 0:
        way.append(came_by[node])
        node = heads[came_by[node] ^ 1]
    return way


def greatest_flow(nodes, arcs):
    """Return a greatest flow from node 0 to the last node: the amounts on the arcs (node, node, room), in their order.

    Behind them stands the ascending list of the nodes to which more could be sent. Arcs that lead out of
    this list are full and arcs that lead into it are empty, and it is the same for all greatest flows.
    """
    # Arc 2 * k is arcs[k], and arc 2 * k + 1 leads back: there is room on it for what can be taken back.
    heads = [node for u, v, room in arcs for node in (v, u)]
    left = [amount for u, v, room in arcs for amount in (room, 0)]
    around = [[] for node in range(nodes)]
    for arc in range(len(heads)):
        around[heads[arc ^ 1]].append(arc)
    came_by = shortest_ways(heads, around, left)
    # With shortest ways, the number of rounds hangs on the net alone, not on the amounts.
    while nodes - 1 in came_by:
        way = way_to(nodes - 1, came_by, heads)
        amount = least_of([left[arc] for arc in way])
        for arc in way:
            left[arc] = left[arc] - amount
            left[arc ^ 1] = left[arc ^ 1] + amount
        came_by = shortest_ways(heads, around, left)
    return left[1::2], sorted(set(came_by))


def jumps_onward(block, numbers, closing):
    """Return jumps with numbers above 0 that lead on from the block, up to a closing jump or to where none leads on."""
    jumps = []
    # The jumps are ascending: those from the block that is reached all come later.
    for u, v in numbers:
        if u == block and numbers[(u, v)] > 0:
            jumps.append((u, v))
            block = v
            if (u, v) in closing:
                return jumps
    return jumps


def ways_onward(begun, numbers, closing):
    """Return the beginnings (path, times) continued so that together they make each jump as often as its number.

    The keys of numbers are ascending jumps. A path is continued up to the first closing jump, or to where
    no jump leads on. Each way that is found uses up its beginning or one of its jumps.
    """
    left = {jump: numbers[jump] for jump in numbers}
    ways = []
    for path, times in begun:
        needed = times
        while needed > 0:
            jumps = jumps_onward(path[-1], left, closing)
            amount = least_of([needed, *[left[jump] for jump in jumps]])
            for jump in jumps:
                left[jump] = left[jump] - amount
            ways.append(((*path, *[v for u, v in jumps]), amount))
            needed = needed - amount
    return ways
