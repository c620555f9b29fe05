"""One shape of squares, its edge, and the cuts of the edge by which copies of it cover the plane."""

MOST_SQUARES = 12
LAST_PLACE = 11

SHAPE = 0
EDGE = 1
CUT = 2
CUTS = 3
MOVES = 4


# Step k of an edge leads from a corner to neighbour k of that corner, so the order is that of the steps' numbers.
def neighbours(place):
    x = place[0]
    y = place[1]
    return [(x + 1, y), (x, y + 1), (x - 1, y), (x, y - 1)]


def is_joined(places):
    wanted = {}
    for place in places:
        wanted[place] = True
    found = [places[0]]
    seen = {places[0]: True}
    k = 0
    while k < len(found):
        here = found[k]
        for place in neighbours(here):
            if place in wanted and place not in seen:
                seen[place] = True
                found.append(place)
        k += 1
    return len(found) == len(places)


# One rim wider than any shape: all that lies farther out is joined to the rim, so the plane needs no other square.
def outside_of(squares):
    places = []
    for x in range(-1, LAST_PLACE + 2):
        for y in range(-1, LAST_PLACE + 2):
            if (x, y) not in squares:
                places.append((x, y))
    return places


def squares_of(numbers):
    return [(numbers[k], numbers[k + 1]) for k in range(0, len(numbers), 2)]


def is_well_told(numbers):
    if len(numbers) == 0 or len(numbers) % 2 != 0 or len(numbers) > 2 * MOST_SQUARES:
        return False
    if max(numbers) > LAST_PLACE:
        return False
    squares = squares_of(numbers)
    return len(set(squares)) == len(squares)


# 0 stands for no refusal: a refusal is always below it.
def shape_refusal(numbers):
    if not is_well_told(numbers):
        return -1
    squares = squares_of(numbers)
    if not is_joined(squares) or not is_joined(outside_of(squares)):
        return -6
    return 0


# With the shape on the left, the side towards neighbour k is gone along from corner k on.
def corners(square):
    x = square[0]
    y = square[1]
    return [(x + 1, y), (x + 1, y + 1), (x, y + 1), (x, y)]


# A corner has one step at most: squares that touch there alone would leave the shape unjoined or with a hole.
def steps_by_corner(squares):
    steps = {}
    for square in squares:
        starts = corners(square)
        for k, beside in enumerate(neighbours(square)):
            if beside not in squares:
                steps[starts[k]] = (k + 1) % 4
    return steps


# A square's lower left corner has the square's own column and row, so the first square is the first corner too.
def edge_of(squares):
    steps = steps_by_corner(squares)
    corner = min(squares, key=lambda square: (square[1], square[0]))
    edge = []
    while len(edge) < len(steps):
        edge.append(steps[corner])
        corner = neighbours(corner)[edge[-1]]
    return edge


def gone_back(steps):
    return [(step + 2) % 4 for step in reversed(steps)]


def gone_round_from(edge, i):
    return edge[i:] + edge[:i]


def parts_of(edge, i, a, b):
    steps = gone_round_from(edge, i)
    return [steps[:a], steps[a:a + b], steps[a + b:len(edge) // 2]]


def is_cut(edge, i, a, b):
    half = len(edge) // 2
    if i >= half or a < 1 or b < 1 or a + b > half:
        return False
    parts = parts_of(edge, i, a, b)
    behind = gone_back(parts[0]) + gone_back(parts[1]) + gone_back(parts[2])
    return gone_round_from(edge, i)[half:] == behind


def cuts_of(edge):
    half = len(edge) // 2
    cuts = []
    for i in range(half):
        for a in range(1, half):
            for b in range(1, half - a + 1):
                if is_cut(edge, i, a, b):
                    cuts.append([i, a, b])
    return cuts


def move_along(steps):
    return [steps.count(0) - steps.count(2), steps.count(1) - steps.count(3)]


def answer_shape(numbers):
    refusal = shape_refusal(numbers)
    if refusal < 0:
        return [refusal]
    return [len(edge_of(squares_of(numbers)))]


def answer_cut(edge):
    cuts = cuts_of(edge)
    if len(cuts) == 0:
        return [-3]
    return cuts[0]


def answer_cuts(edge):
    cuts = cuts_of(edge)
    answer = [len(cuts)]
    for cut in cuts:
        answer.extend(cut)
    return answer


def answer_moves(edge, i, a, b):
    if not is_cut(edge, i, a, b):
        return [-3]
    parts = parts_of(edge, i, a, b)
    return move_along(parts[0] + parts[1]) + move_along(parts[1] + parts[2])


def answer_to(call, squares):
    if call[0] == SHAPE:
        return answer_shape(call[2:])
    edge = edge_of(squares)
    if call[0] == EDGE:
        return [len(edge)] + edge
    if call[0] == CUT:
        return answer_cut(edge)
    if call[0] == CUTS:
        return answer_cuts(edge)
    if call[0] == MOVES:
        return answer_moves(edge, call[1], call[2], call[3])
    raise NotImplementedError("only the calls shape, edge, cut, cuts and moves are there")


def call_length(calls, start):
    if calls[start] == SHAPE:
        return 2 + calls[start + 1]
    if calls[start] == MOVES:
        return 4
    return 1


def answers(calls):
    squares = [(0, 0)]
    told = []
    start = 0
    while start < len(calls):
        end = start + call_length(calls, start)
        call = calls[start:end]
        answer = answer_to(call, squares)
        if call[0] == SHAPE and answer[0] > 0:
            squares = squares_of(call[2:])
        told.append(len(answer))
        told.extend(answer)
        start = end
    return told
