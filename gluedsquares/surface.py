"""Surfaces of squares: one list of calls is handed in, one list of answers is given back."""

NO_SQUARE = -2
NOT_BEGUN = -11
NOT_RIGHT = -22
NOT_TOGETHER = -33

MOST_SQUARES = 6
MOST_STEPS = 30

EAST = 0
NORTH = 1
LAST_STEP = 3
ONCE_ROUND = (0, 1, 2, 3)

BEGIN = 0
GLUE = 1
GO = 2
WALK = 3
CORNERS = 4
CORNER = 5
HOLES = 6
NAME = 7

# How many whole numbers and how many rows a call has, by its number. All calls
# of the interface stand here, as what comes behind one can't be found without.
SHAPES = (
    (1, 0),
    (0, 2),
    (2, 0),
    (1, 1),
    (0, 0),
    (1, 0),
    (0, 0),
    (0, 0),
    (0, 2),
    (0, 0),
    (0, 1),
    (0, 0),
    (0, 0),
    (2, 0),
    (0, 0),
)


def tells_all_once(ones, size):
    return sorted(ones) == list(range(size))


def turned_back(ones):
    """For each square the one that leads to it."""
    back = [0] * len(ones)
    for square, one in enumerate(ones):
        back[one] = square
    return back


def order_from(square, east, north):
    order = [square]
    place = 0
    while place < len(order):
        here = order[place]
        for one in (east[here], north[here]):
            if one not in order:
                order.append(one)
        place += 1
    return order


def hang_together(east, north):
    # Western and southern steps reach no more: each is some eastern or
    # northern steps, as these come round.
    return len(order_from(0, east, north)) == len(east)


def renamed(ones, order):
    new_names = turned_back(order)
    return [new_names[ones[square]] for square in order]


def renamed_from(square, east, north):
    order = order_from(square, east, north)
    return renamed(east, order) + renamed(north, order)


def least_name(east, north):
    return min([renamed_from(square, east, north) for square in range(len(east))])


def led_by(steps, square, ways):
    here = square
    for step in steps:
        here = ways[step][here]
    return here


def squares_round(square, ways):
    """The squares at the corner in the north east of this one, this one first."""
    squares = [square]
    here = led_by(ONCE_ROUND, square, ways)
    while here != square:
        squares.append(here)
        here = led_by(ONCE_ROUND, here, ways)
    return squares


def corner_sizes(ways):
    """How often one goes round each corner, by the least square of each."""
    met = []
    sizes = []
    for square in range(len(ways[EAST])):
        if square not in met:
            squares = squares_round(square, ways)
            met.extend(squares)
            sizes.append(len(squares))
    return sizes


def counted(numbers):
    return [len(numbers)] + numbers


class Surface:
    """The squares that one list of calls is about: none before a begin that answers 0.

    Each method with the name of a call gives back the numbers that it answers.
    """

    def __init__(self):
        self.size = 0
        self.ways = []

    def lay(self, east, north):
        self.size = len(east)
        self.ways = [east, north, turned_back(east), turned_back(north)]

    def begin(self, size):
        if size < 1 or size > MOST_SQUARES:
            return [NOT_RIGHT]
        squares = list(range(size))
        self.lay(squares[1:] + [0], squares)
        return [0]

    def glue(self, east, north):
        if not tells_all_once(east, self.size) or not tells_all_once(north, self.size):
            return [NOT_RIGHT]
        if not hang_together(east, north):
            return [NOT_TOGETHER]
        self.lay(east, north)
        return [len(corner_sizes(self.ways))]

    def go(self, square, step):
        if square >= self.size:
            return [NO_SQUARE]
        if step > LAST_STEP:
            return [NOT_RIGHT]
        return [led_by([step], square, self.ways)]

    def walk(self, square, steps):
        if square >= self.size:
            return [NO_SQUARE]
        if len(steps) > MOST_STEPS or max(steps, default=0) > LAST_STEP:
            return [NOT_RIGHT]
        return [led_by(steps, square, self.ways)]

    def corners(self):
        return counted(corner_sizes(self.ways))

    def corner(self, square):
        if square >= self.size:
            return [NO_SQUARE]
        return counted(squares_round(square, self.ways))

    def holes(self):
        return [(self.size - len(corner_sizes(self.ways))) // 2 + 1]

    def name(self):
        return counted(least_name(self.ways[EAST], self.ways[NORTH]))


class Reader:
    """Takes the numbers of a list one behind another and leaves the list as it is."""

    def __init__(self, calls):
        self.calls = calls
        self.place = 0

    def has_more(self):
        return self.place < len(self.calls)

    def take(self, many):
        first = self.place
        self.place = first + many
        return self.calls[first:self.place]

    def take_one(self):
        return self.take(1)[0]

    def take_rows(self, many):
        return [self.take(self.take_one()) for turn in range(many)]


def answer(surface, call, numbers, rows):
    if call == BEGIN:
        return surface.begin(numbers[0])
    if surface.size == 0:
        return [NOT_BEGUN]
    if call == GLUE:
        return surface.glue(rows[0], rows[1])
    if call == GO:
        return surface.go(numbers[0], numbers[1])
    if call == WALK:
        return surface.walk(numbers[0], rows[0])
    if call == CORNERS:
        return surface.corners()
    if call == CORNER:
        return surface.corner(numbers[0])
    if call == HOLES:
        return surface.holes()
    if call == NAME:
        return surface.name()
    raise NotImplementedError(f"call {call} is not built yet")


def answers(calls):
    reader = Reader(calls)
    surface = Surface()
    given = []
    while reader.has_more():
        call = reader.take_one()
        shape = SHAPES[call]
        numbers = reader.take(shape[0])
        rows = reader.take_rows(shape[1])
        given.extend(counted(answer(surface, call, numbers, rows)))
    return given
