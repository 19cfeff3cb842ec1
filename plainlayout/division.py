"""The best division, and its costs: of pieces into lines, and of lines into pages."""


def best_division(size, costs_from):
    # costs_from(start) are the costs of what is allowed from this place on, with one member, with two and so on.
    # From the end on: what follows has its own best division already.
    costs = [0] * (size + 1)
    firsts = [0] * size
    for start in range(size - 1, -1, -1):
        for count, own in enumerate(costs_from(start), start=1):
            total = own + costs[start + count]
            # Of equal costs the later one counts, as it has more members.
            if count == 1 or total <= costs[start]:
                costs[start] = total
                firsts[start] = count
    counts = []
    at = 0
    while at < size:
        counts.append(firsts[at])
        at += firsts[at]
    return counts


def filling_cost(room, size, is_last, excess_cost):
    # Of a line in its width, and of a page in its height.
    if size > room:
        return excess_cost * (size - room)
    if is_last:
        return 0
    return (room - size) ** 2
