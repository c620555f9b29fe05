"""One shape of squares, its edge, and the cuts and the grids by which copies of it cover the plane."""

MOST_SQUARES = 12
LAST_PLACE = 11
LAST_ASKED_PLACE = 1000

SHAPE = 0
EDGE = 1
CUT = 2
CUTS = 3
MOVES = 4
GRIDS = 5
ON = 6
GRIDOF = 7


# Step k of an edge leads from a corner to neighbour k of that corner, so the order is that of the steps' numbers.
def neighbours(place):
    x = place[0]
    y = place[1]
    return [(x + 1, y), (x, y + 1), (x - 1, y), (x, y - 1)]


def is_joined(places):
    wanted = {}
    for place in places:
        wanted[place] = True
    found = [places[0]]
    seen = {places[0]: True}
    k = 0
    while k < len(found):
        here = found[k]
        for place in neighbours(here):
            if place in wanted and place not in seen:
                seen[place] = True
                found.append(place)
        k += 1
    return len(found) == len(places)


# One rim wider than any shape: all that lies farther out is joined to the rim, so the plane needs no other square.
def outside_of(squares):
    places = []
    for x in range(-1, LAST_PLACE + 2):
        for y in range(-1, LAST_PLACE + 2):
            if (x, y) not in squares:
                places.append((x, y))
    return places


def squares_of(numbers):
    return [(numbers[k], numbers[k + 1]) for k in range(0, len(numbers), 2)]


def is_well_told(numbers):
    if len(numbers) == 0 or len(numbers) % 2 != 0 or len(numbers) > 2 * MOST_SQUARES:
        return False
    if max(numbers) > LAST_PLACE:
        return False
    squares = squares_of(numbers)
    return len(set(squares)) == len(squares)


# 0 stands for no refusal: a refusal is always below it.
def shape_refusal(numbers):
    if not is_well_told(numbers):
        return -1
    squares = squares_of(numbers)
    if not is_joined(squares) or not is_joined(outside_of(squares)):
        return -6
    return 0


# With the shape on the left, the side towards neighbour k is gone along from corner k on.
def corners(square):
    x = square[0]
    y = square[1]
    return [(x + 1, y), (x + 1, y + 1), (x, y + 1), (x, y)]


# A corner has one step at most: squares that touch there alone would leave the shape unjoined or with a hole.
def steps_by_corner(squares):
    steps = {}
    for square in squares:
        starts = corners(square)
        for k, beside in enumerate(neighbours(square)):
            if beside not in squares:
                steps[starts[k]] = (k + 1) % 4
    return steps


# A square's lower left corner has the square's own column and row, so the first square is the first corner too.
def edge_of(squares):
    steps = steps_by_corner(squares)
    corner = min(squares, key=lambda square: (square[1], square[0]))
    edge = []
    while len(edge) < len(steps):
        edge.append(steps[corner])
        corner = neighbours(corner)[edge[-1]]
    return edge


def gone_back(steps):
    return [(step + 2) % 4 for step in reversed(steps)]


def gone_round_from(edge, i):
    return edge[i:] + edge[:i]


def parts_of(edge, i, a, b):
    steps = gone_round_from(edge, i)
    return [steps[:a], steps[a:a + b], steps[a + b:len(edge) // 2]]


def is_cut(edge, i, a, b):
    half = len(edge) // 2
    if i >= half or a < 1 or b < 1 or a + b > half:
        return False
    parts = parts_of(edge, i, a, b)
    behind = gone_back(parts[0]) + gone_back(parts[1]) + gone_back(parts[2])
    return gone_round_from(edge, i)[half:] == behind


def cuts_of(edge):
    half = len(edge) // 2
    cuts = []
    for i in range(half):
        for a in range(1, half):
            for b in range(1, half - a + 1):
                if is_cut(edge, i, a, b):
                    cuts.append([i, a, b])
    return cuts


def move_along(steps):
    return [steps.count(0) - steps.count(2), steps.count(1) - steps.count(3)]


def moves_of(edge, i, a, b):
    parts = parts_of(edge, i, a, b)
    return [move_along(parts[0] + parts[1]), move_along(parts[1] + parts[2])]


# Of all places to which the grid's moves lead from one, just one lies in the columns 0 to a - 1 and rows 0 to d - 1.
def home_in(grid, place):
    a = grid[0]
    b = grid[1]
    d = grid[2]
    return ((place[0] - place[1] // d * b) % a, place[1] % d)


def homes_in(grid, squares):
    return [home_in(grid, square) for square in squares]


# The grid has as many homes as the shape has squares, so different homes are all homes.
def grids_of(squares):
    grids = []
    for a in range(1, len(squares) + 1):
        if len(squares) % a == 0:
            for b in range(a):
                grid = [a, b, len(squares) // a]
                if len(set(homes_in(grid, squares))) == len(squares):
                    grids.append(grid)
    return grids


# Taking one move from the other, however often, leaves all that can be made of the two as it is.
def grid_by(first, second):
    slanted = first
    level = second
    while level[1] != 0:
        often = slanted[1] // level[1]
        rest = [slanted[0] - often * level[0], slanted[1] - often * level[1]]
        slanted = level
        level = rest
    if slanted[1] < 0:
        slanted = [-slanted[0], -slanted[1]]
    return [abs(level[0]), slanted[0] % abs(level[0]), slanted[1]]


def answer_shape(numbers):
    refusal = shape_refusal(numbers)
    if refusal < 0:
        return [refusal]
    return [len(edge_of(squares_of(numbers)))]


def answer_cut(edge):
    cuts = cuts_of(edge)
    if len(cuts) == 0:
        return [-3]
    return cuts[0]


# The answer of cuts and of grids: how many, then the numbers of each.
def counted(rows):
    answer = [len(rows)]
    for row in rows:
        answer.extend(row)
    return answer


def answer_moves(edge, i, a, b):
    if not is_cut(edge, i, a, b):
        return [-3]
    moves = moves_of(edge, i, a, b)
    return moves[0] + moves[1]


def answer_on(squares, n, x, y):
    if x > LAST_ASKED_PLACE or y > LAST_ASKED_PLACE:
        return [-1]
    grids = grids_of(squares)
    if n >= len(grids):
        return [-2]
    number = homes_in(grids[n], squares).index(home_in(grids[n], (x, y)))
    return [number, x - squares[number][0], y - squares[number][1]]


# A cut's moves always make a grid by which the shape covers, so its grid is among those of the shape.
def answer_gridof(squares, i, a, b):
    edge = edge_of(squares)
    if not is_cut(edge, i, a, b):
        return [-3]
    moves = moves_of(edge, i, a, b)
    return [grids_of(squares).index(grid_by(moves[0], moves[1]))]


# Where copies cover the plane by any moves at all, the edge has a cut (Beauquier and Nivat).
def answer_tiles(edge):
    return [1 if len(cuts_of(edge)) > 0 else 0]


def answer_to(call, squares):
    if call[0] == SHAPE:
        return answer_shape(call[2:])
    edge = edge_of(squares)
    if call[0] == EDGE:
        return [len(edge)] + edge
    if call[0] == CUT:
        return answer_cut(edge)
    if call[0] == CUTS:
        return counted(cuts_of(edge))
    if call[0] == MOVES:
        return answer_moves(edge, call[1], call[2], call[3])
    if call[0] == GRIDS:
        return counted(grids_of(squares))
    if call[0] == ON:
        return answer_on(squares, call[1], call[2], call[3])
    if call[0] == GRIDOF:
        return answer_gridof(squares, call[1], call[2], call[3])
    return answer_tiles(edge)


def call_length(calls, start):
    if calls[start] == SHAPE:
        return 2 + calls[start + 1]
    if calls[start] in (MOVES, ON, GRIDOF):
        return 4
    return 1


def answers(calls):
    squares = [(0, 0)]
    told = []
    start = 0
    while start < len(calls):
        end = start + call_length(calls, start)
        call = calls[start:end]
        answer = answer_to(call, squares)
        if call[0] == SHAPE and answer[0] > 0:
            squares = squares_of(call[2:])
        told.append(len(answer))
        told.extend(answer)
        start = end
    return told
