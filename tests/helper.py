"""What the tests share: calls in the interface's form, shapes to ask about, and slow plain checks to compare with."""
from onecover.shapes import answers

SQUARE = [(0, 0)]
DOMINO = [(0, 0), (1, 0)]
BAR = [(0, 0), (1, 0), (2, 0)]
CORNER = [(0, 0), (1, 0), (0, 1)]
CUP = [(0, 0), (1, 0), (2, 0), (0, 1), (2, 1)]
RING = [(x, y) for x in range(3) for y in range(3) if (x, y) != (1, 1)]

EDGE = [1]
CUT = [2]
CUTS = [3]
GRIDS = [5]
TILES = [8]
TOP = 4294967295


def raw_shape(numbers):
    return [0, len(numbers)] + list(numbers)


def shape(squares):
    return raw_shape([number for square in squares for number in square])


def moves(i, a, b):
    return [4, i, a, b]


def on(n, x, y):
    return [6, n, x, y]


def gridof(i, a, b):
    return [7, i, a, b]


def split(told):
    """The answers, one list each, of what the program gave back."""
    found = []
    k = 0
    while k < len(told):
        count = told[k]
        found.append(told[k + 1:k + 1 + count])
        if len(found[-1]) != count or count < 1:
            raise AssertionError(f"a count is wrong in {told}")
        k += 1 + count
    return found


def ask(*calls):
    """The answers to these calls on one new shape, one list each."""
    found = split(answers([number for call in calls for number in call]))
    if len(found) != len(calls):
        raise AssertionError(f"{len(calls)} calls, {len(found)} answers")
    return found


def edge_of(squares):
    return ask(shape(squares), EDGE)[1][1:]


def triples(answer):
    return [tuple(answer[k:k + 3]) for k in range(1, len(answer), 3)]


def cuts_of(squares):
    return triples(ask(shape(squares), CUTS)[1])


def grids_of(squares):
    return triples(ask(shape(squares), GRIDS)[1])


def next_seed(seed):
    return (seed * 1103515245 + 12345) % 2147483648


def picked(seed, choices):
    return choices[seed // 65536 % len(choices)]


def window_shapes(width, height):
    """Each choice of squares of the window but the empty one, joined or not."""
    places = [(x, y) for x in range(width) for y in range(height)]
    for mask in range(1, 1 << len(places)):
        yield [place for k, place in enumerate(places) if mask >> k & 1]


def grown_shapes(most):
    """All joined sets of 1 up to most squares, each once up to moving, pushed against column 0 and row 0."""
    layer = {((0, 0),)}
    for size in range(1, most + 1):
        yield from sorted(layer)
        layer = {pushed(old + (place,)) for old in layer for place in beside(old)}


def large_shapes(most):
    """Joined sets of 8 to 12 squares, the same at each run."""
    seed = 1
    for number in range(most):
        squares = ((5, 5),)
        while len(squares) < 8 + number % 5:
            seed = next_seed(seed)
            squares += (picked(seed, room_beside(squares)),)
        yield squares


def covering_shapes(most):
    """Shapes of 1 to 12 squares that cover by the grid told with them, the same at each run."""
    seed = 1
    for number in range(most):
        count = 1 + number % 12
        seed = next_seed(seed)
        a = picked(seed, [a for a in range(1, count + 1) if count % a == 0])
        seed = next_seed(seed)
        grid = (a, picked(seed, range(a)), count // a)
        squares = ((number % 7, number % 11),)
        places = [True]
        while len(squares) < count and places:
            places = [place for place in room_beside(squares) if not any(is_move(grid, place, old) for old in squares)]
            seed = next_seed(seed)
            if places:
                squares += (picked(seed, places),)
        if len(squares) == count:
            yield squares, grid


def room_beside(squares):
    return sorted(place for place in beside(squares) if 0 <= min(place) and max(place) <= 11)


def taken_shapes(most, large):
    """Shapes that are taken: all of up to most squares, and some of 8 to 12."""
    for squares in grown_shapes(most):
        if plain_shape_answer(squares) > 0:
            yield squares
    for squares in large_shapes(large):
        if plain_shape_answer(squares) > 0:
            yield squares


def beside(squares):
    found = {(x + h, y + v) for x, y in squares for h, v in ((1, 0), (0, 1), (-1, 0), (0, -1))}
    return found - set(squares)


def pushed(squares):
    left = min(x for x, y in squares)
    low = min(y for x, y in squares)
    return tuple(sorted((x - left, y - low) for x, y in squares))


def moved(squares, right, up):
    return [(x + right, y + up) for x, y in squares]


def plainly_joined(squares):
    """By merging groups, not by walking."""
    group = {square: k for k, square in enumerate(squares)}
    for x, y in squares:
        for other in ((x + 1, y), (x, y + 1)):
            if other in group:
                old, new = group[other], group[x, y]
                group = {square: new if k == old else k for square, k in group.items()}
    return len(set(group.values())) == 1


def plainly_has_hole(squares):
    """By counting two-by-two windows (Euler's number); the squares must be joined."""
    total = 0
    for x in range(-1, 12):
        for y in range(-1, 12):
            filled = [place in squares for place in ((x, y), (x + 1, y), (x, y + 1), (x + 1, y + 1))]
            if sum(filled) == 1:
                total += 1
            elif sum(filled) == 3:
                total -= 1
            elif filled in ([True, False, False, True], [False, True, True, False]):
                total -= 2
    return total != 4


def plain_shape_answer(squares):
    if not plainly_joined(squares) or plainly_has_hole(squares):
        return -6
    return sum(1 for x, y in squares for h, v in ((1, 0), (0, 1), (-1, 0), (0, -1)) if (x + h, y + v) not in squares)


def plain_cuts(edge):
    """Step by step: within a part, step k is answered by the opposite one as far from the answering part's end."""
    length = len(edge)
    half = length // 2
    found = []
    for i in range(half):
        for a in range(1, half + 1):
            for b in range(1, half + 1 - a):
                if all(plain_part(edge, i, low, high) for low, high in ((0, a), (a, a + b), (a + b, half))):
                    found.append((i, a, b))
    return found


def plain_part(edge, i, low, high):
    length = len(edge)
    half = length // 2
    for k in range(low, high):
        step = edge[(i + k) % length]
        answer = edge[(i + half + low + high - 1 - k) % length]
        if abs(step - answer) != 2:
            return False
    return True


def end_of(steps):
    x = sum({0: 1, 2: -1}.get(step, 0) for step in steps)
    y = sum({1: 1, 3: -1}.get(step, 0) for step in steps)
    return [x, y]


def is_move(grid, start, end):
    """Whether one of the grid's moves leads from the one square to the other."""
    a, b, d = grid
    right, up = end[0] - start[0], end[1] - start[1]
    return up % d == 0 and (right - up // d * b) % a == 0


def plain_grids(squares):
    """Each a, b, d by which each square of the plane is covered by just one copy; d is tried apart from a."""
    count = len(squares)
    found = []
    for a in range(1, count + 2):
        for b in range(a):
            for d in range(1, count + 2):
                if covers_by_grid(squares, (a, b, d)):
                    found.append((a, b, d))
    return found


def covers_by_grid(squares, grid):
    """By counting the copies on each square of a block that the grid's moves lead over the whole plane."""
    return all(sum(is_move(grid, square, (x, y)) for square in squares) == 1
               for x in range(grid[0]) for y in range(grid[2]))


def covers_by_some_grid(squares):
    """Whether the squares fall on different places of some grid that has as many places as there are squares."""
    count = len(squares)
    for a in range(1, count + 1):
        if count % a == 0:
            d = count // a
            for b in range(a):
                if len({((x - y // d * b) % a, y % d) for x, y in squares}) == count:
                    return True
    return False


def laid_copies(squares, grid, left, low, size):
    """Copy by copy laid down by the grid: of each square of a window the shape's squares and moves that come there."""
    a, b, d = grid
    found = {(left + h, low + v): [] for h in range(size) for v in range(size)}
    for rows in range(low // d - 12, (low + size) // d + 1):
        for times in range((left - 12 - rows * b) // a, (left + size - rows * b) // a + 1):
            right, up = times * a + rows * b, rows * d
            for number, (x, y) in enumerate(squares):
                if (x + right, y + up) in found:
                    found[x + right, y + up].append([number, right, up])
    return found


def can_be_surrounded(squares):
    """Whether copies, by whatever moves, cover all that lies round the shape: a search without edges and grids.

    A shape that covers the plane can be surrounded; of small shapes those that can be, cover it.
    """
    around = {(x + h, y + v) for x, y in squares for h in (-1, 0, 1) for v in (-1, 0, 1)}

    def copies_on(place, taken):
        copies = [set(moved(squares, place[0] - x, place[1] - y)) for x, y in squares]
        return [copy for copy in copies if not copy & taken]

    def search(taken):
        left = sorted(around - taken)
        if not left:
            return True
        fewest = min((copies_on(place, taken) for place in left), key=len)
        return any(search(taken | copy) for copy in fewest)

    return search(set(squares))


def covers_by_moves(squares, four):
    """Whether copies at all moves made of these two cover each square of the plane just once."""
    right, up, far, high = four
    size = right * high - up * far
    if abs(size) != len(squares):
        return False
    for x, y in squares:
        for p, q in squares:
            h, v = p - x, q - y
            if (h, v) != (0, 0) and (h * high - v * far) % size == 0 and (v * right - h * up) % size == 0:
                return False
    return True


def makes_same_moves(grid, four):
    """Whether what is made of the two moves is just what the grid makes: each side's moves are made by the other."""
    a, b, d = grid
    right, up, far, high = four
    size = right * high - up * far
    if not is_move(grid, (0, 0), (right, up)) or not is_move(grid, (0, 0), (far, high)) or size == 0:
        return False
    return all((h * high - v * far) % size == 0 and (v * right - h * up) % size == 0 for h, v in ((a, 0), (b, d)))
