"""Maps and ways: which cells lie beside one another, and how far it is between them."""

CLOSED = 255
HIGHEST_COST = 200
LONGEST_SIDE = 16
MOST_CELLS = 256

# A cell weighs SHARE times its cost, and one more for itself. A way that takes
# least has fewer than SHARE cells, so the lightest ways are those that take
# least and, among these, have the fewest cells.
SHARE = 1024


def sides_fit(width, height):
    return 1 <= width <= LONGEST_SIDE and 1 <= height <= LONGEST_SIDE


def is_cost(cost):
    """Whether a cell that's known may have this cost."""
    return 1 <= cost <= HIGHEST_COST or cost == CLOSED


def neighbours(width, height, cell):
    """The cell's neighbours, rising."""
    column = cell % width
    found = []
    if cell >= width:
        found.append(cell - width)
    if column > 0:
        found.append(cell - 1)
    if column < width - 1:
        found.append(cell + 1)
    if cell + width < width * height:
        found.append(cell + width)
    return found


def all_neighbours(width, height):
    return [neighbours(width, height, cell) for cell in range(width * height)]


def weight(cost, kept_out):
    """What a free cell weighs; 0 for a cell that no way goes by."""
    if cost == 0 or cost == CLOSED or kept_out:
        return 0
    return SHARE * cost + 1


def lightest(weights, beside, start):
    """Of each cell, what the lightest way between it and start weighs, both ends counted; 0 if there's none."""
    sums = [0] * len(weights)
    if weights[start] == 0:
        return sums
    sums[start] = weights[start]
    edge = {sums[start]: [start]}
    while edge:
        least = min(edge)
        nearest = edge.pop(least)
        for near in nearest:
            for cell in beside[near]:
                # A cell weighs the same wherever it's entered from, so the first
                # sum found for it, from the nearest cells, is already its least.
                if weights[cell] > 0 and sums[cell] == 0:
                    sums[cell] = least + weights[cell]
                    edge.setdefault(sums[cell], []).append(cell)
    return sums


def taken(whole, first):
    """What a way takes, from its whole weight and its first cell's."""
    return (whole - first) // SHARE


def second_cell(weights, beside, sums, place):
    """The second cell of the way from place to the cell, not place itself, that the sums were made from."""
    onward = [cell for cell in beside[place] if sums[cell] + weights[place] == sums[place]]
    # All lightest ways have the same number of cells: the least row is the one that goes on by the least cell.
    return min(onward)
