"""What the tests share: calls in the interface's form, shapes to ask about, and slow plain checks to compare with."""
from onecover.shapes import answers

SQUARE = [(0, 0)]
DOMINO = [(0, 0), (1, 0)]
BAR = [(0, 0), (1, 0), (2, 0)]
CORNER = [(0, 0), (1, 0), (0, 1)]
CUP = [(0, 0), (1, 0), (2, 0), (0, 1), (2, 1)]
RING = [(x, y) for x in range(3) for y in range(3) if (x, y) != (1, 1)]

EDGE = [1]
CUT = [2]
CUTS = [3]
TOP = 4294967295


def raw_shape(numbers):
    return [0, len(numbers)] + list(numbers)


def shape(squares):
    return raw_shape([number for square in squares for number in square])


def moves(i, a, b):
    return [4, i, a, b]


def split(told):
    """The answers, one list each, of what the program gave back."""
    found = []
    k = 0
    while k < len(told):
        count = told[k]
        found.append(told[k + 1:k + 1 + count])
        if len(found[-1]) != count or count < 1:
            raise AssertionError(f"a count is wrong in {told}")
        k += 1 + count
    return found


def ask(*calls):
    """The answers to these calls on one new shape, one list each."""
    found = split(answers([number for call in calls for number in call]))
    if len(found) != len(calls):
        raise AssertionError(f"{len(calls)} calls, {len(found)} answers")
    return found


def edge_of(squares):
    return ask(shape(squares), EDGE)[1][1:]


def triples(answer):
    return [tuple(answer[k:k + 3]) for k in range(1, len(answer), 3)]


def cuts_of(squares):
    return triples(ask(shape(squares), CUTS)[1])


def window_shapes(width, height):
    """Each choice of squares of the window but the empty one, joined or not."""
    places = [(x, y) for x in range(width) for y in range(height)]
    for mask in range(1, 1 << len(places)):
        yield [place for k, place in enumerate(places) if mask >> k & 1]


def grown_shapes(most):
    """All joined sets of 1 up to most squares, each once up to moving, pushed against column 0 and row 0."""
    layer = {((0, 0),)}
    for size in range(1, most + 1):
        yield from sorted(layer)
        layer = {pushed(old + (place,)) for old in layer for place in beside(old)}


def large_shapes(most):
    """Joined sets of 8 to 12 squares, the same at each run."""
    seed = 1
    for number in range(most):
        squares = ((5, 5),)
        while len(squares) < 8 + number % 5:
            seed = (seed * 1103515245 + 12345) % 2147483648
            places = sorted(place for place in beside(squares) if 0 <= min(place) and max(place) <= 11)
            squares += (places[seed // 65536 % len(places)],)
        yield squares


def beside(squares):
    found = {(x + h, y + v) for x, y in squares for h, v in ((1, 0), (0, 1), (-1, 0), (0, -1))}
    return found - set(squares)


def pushed(squares):
    left = min(x for x, y in squares)
    low = min(y for x, y in squares)
    return tuple(sorted((x - left, y - low) for x, y in squares))


def moved(squares, right, up):
    return [(x + right, y + up) for x, y in squares]


def plainly_joined(squares):
    """By merging groups, not by walking."""
    group = {square: k for k, square in enumerate(squares)}
    for x, y in squares:
        for other in ((x + 1, y), (x, y + 1)):
            if other in group:
                old, new = group[other], group[x, y]
                group = {square: new if k == old else k for square, k in group.items()}
    return len(set(group.values())) == 1


def plainly_has_hole(squares):
    """By counting two-by-two windows (Euler's number); the squares must be joined."""
    total = 0
    for x in range(-1, 12):
        for y in range(-1, 12):
            filled = [place in squares for place in ((x, y), (x + 1, y), (x, y + 1), (x + 1, y + 1))]
            if sum(filled) == 1:
                total += 1
            elif sum(filled) == 3:
                total -= 1
            elif filled in ([True, False, False, True], [False, True, True, False]):
                total -= 2
    return total != 4


def plain_shape_answer(squares):
    if not plainly_joined(squares) or plainly_has_hole(squares):
        return -6
    return sum(1 for x, y in squares for h, v in ((1, 0), (0, 1), (-1, 0), (0, -1)) if (x + h, y + v) not in squares)


def plain_cuts(edge):
    """Step by step: within a part, step k is answered by the opposite one as far from the answering part's end."""
    length = len(edge)
    half = length // 2
    found = []
    for i in range(half):
        for a in range(1, half + 1):
            for b in range(1, half + 1 - a):
                if all(plain_part(edge, i, low, high) for low, high in ((0, a), (a, a + b), (a + b, half))):
                    found.append((i, a, b))
    return found


def plain_part(edge, i, low, high):
    length = len(edge)
    half = length // 2
    for k in range(low, high):
        step = edge[(i + k) % length]
        answer = edge[(i + half + low + high - 1 - k) % length]
        if abs(step - answer) != 2:
            return False
    return True


def end_of(steps):
    x = sum({0: 1, 2: -1}.get(step, 0) for step in steps)
    y = sum({1: 1, 3: -1}.get(step, 0) for step in steps)
    return [x, y]


def covers_by_some_grid(squares):
    """Whether the squares fall on different places of some grid that has as many places as there are squares."""
    count = len(squares)
    for a in range(1, count + 1):
        if count % a == 0:
            d = count // a
            for b in range(a):
                if len({((x - y // d * b) % a, y % d) for x, y in squares}) == count:
                    return True
    return False


def covers_by_moves(squares, four):
    """Whether copies at all moves made of these two cover each square of the plane just once."""
    right, up, far, high = four
    size = right * high - up * far
    if abs(size) != len(squares):
        return False
    for x, y in squares:
        for p, q in squares:
            h, v = p - x, q - y
            if (h, v) != (0, 0) and (h * high - v * far) % size == 0 and (v * right - h * up) % size == 0:
                return False
    return True
