"""Two sides: a 0 or 1 for each point so that each tie is between both, or an odd ring that bars it."""


def neighbours(net):
    tied = [[] for point in range(net[0])]
    for one, other in net[1]:
        tied[one].append(other)
        tied[other].append(one)
    return tied


def spread(tied, row, above, root):
    # Nearest points first: so two tied points of one side lie equally many steps from the root.
    waiting = [root]
    place = 0
    while place < len(waiting):
        point = waiting[place]
        place += 1
        for near in tied[point]:
            if row[near] is None:
                row[near] = 1 - row[point]
                above[near] = point
                waiting.append(near)
            elif row[near] == row[point]:
                return (point, near)
    return None


def closed(above, one, other):
    # Both lie equally many steps from the root, so they meet when they climb side by side.
    up = [one]
    down = [other]
    while up[-1] != down[-1]:
        up.append(above[up[-1]])
        down.append(above[down[-1]])
    return tuple(up + list(reversed(down[:-1])))


def sides(net):
    tied = neighbours(net)
    row = [None] * net[0]
    above = [None] * net[0]
    for root in range(net[0]):
        if row[root] is None:
            row[root] = 0
            clash = spread(tied, row, above, root)
            if clash is not None:
                return ("ring", closed(above, clash[0], clash[1]))
    return ("sides", tuple(row))
