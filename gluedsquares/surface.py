"""Surfaces of squares: one list of calls is handed in, one list of answers is given back."""

NO_SQUARE = -2
NOT_BEGUN = -11
NOT_RIGHT = -22
NOT_TOGETHER = -33

MOST_SQUARES = 6
MOST_STEPS = 30

EAST = 0
NORTH = 1
LAST_STEP = 3
ONCE_ROUND = (0, 1, 2, 3)
ALONG_ROW = (0,)
ALONG_COLUMN = (1,)

BEGIN = 0
GLUE = 1
GO = 2
WALK = 3
CORNERS = 4
CORNER = 5
HOLES = 6
NAME = 7
SAME = 8
SELVES = 9
RENAME = 10
ROWS = 11
COLUMNS = 12
NEAR = 13

# How many whole numbers and how many rows a call has, by its number: what comes
# behind a call can't be found without, be it refused or not.
SHAPES = (
    (1, 0),
    (0, 2),
    (2, 0),
    (1, 1),
    (0, 0),
    (1, 0),
    (0, 0),
    (0, 0),
    (0, 2),
    (0, 0),
    (0, 1),
    (0, 0),
    (0, 0),
    (2, 0),
    (0, 0),
)


def tells_all_once(ones, size):
    return sorted(ones) == list(range(size))


def turned_back(ones):
    """For each square the one that leads to it."""
    back = [0] * len(ones)
    for square, one in enumerate(ones):
        back[one] = square
    return back


def order_from(square, east, north):
    order = [square]
    place = 0
    while place < len(order):
        here = order[place]
        for one in (east[here], north[here]):
            if one not in order:
                order.append(one)
        place += 1
    return order


def hang_together(east, north):
    # Western and southern steps reach no more: each is some eastern or
    # northern steps, as these come round.
    return len(order_from(0, east, north)) == len(east)


def renamed(ones, order):
    new_names = turned_back(order)
    return [new_names[ones[square]] for square in order]


def renamed_from(square, east, north):
    order = order_from(square, east, north)
    return renamed(east, order) + renamed(north, order)


def names_by_orders(east, north):
    """What it is renamed to by the order from each square in turn."""
    return [renamed_from(square, east, north) for square in range(len(east))]


def least_name(east, north):
    return min(names_by_orders(east, north))


def gluing_fault(east, north, size):
    """The refusal that is due to these lists, or 0 if they can be glued."""
    if not tells_all_once(east, size) or not tells_all_once(north, size):
        return NOT_RIGHT
    if not hang_together(east, north):
        return NOT_TOGETHER
    return 0


def led_by(steps, square, ways):
    here = square
    for step in steps:
        here = ways[step][here]
    return here


def squares_round(square, steps, ways):
    """The squares that come by these steps again and again, this one first."""
    squares = [square]
    here = led_by(steps, square, ways)
    while here != square:
        squares.append(here)
        here = led_by(steps, here, ways)
    return squares


def round_sizes(steps, ways):
    """How many squares come together by these steps, by the least square of each round."""
    met = []
    sizes = []
    for square in range(len(ways[EAST])):
        if square not in met:
            squares = squares_round(square, steps, ways)
            met.extend(squares)
            sizes.append(len(squares))
    return sizes


def with_neighbours(squares, ways):
    wider = list(squares)
    for way in ways:
        for square in squares:
            if way[square] not in wider:
                wider.append(way[square])
    return wider


def fewest_steps(start, goal, ways):
    # The goal is met at last, as all squares hang together.
    reached = [start]
    steps = 0
    while goal not in reached:
        reached = with_neighbours(reached, ways)
        steps += 1
    return steps


def counted(numbers):
    return [len(numbers)] + numbers


class Surface:
    """The squares that one list of calls is about: none before a begin that answers 0.

    Each method with the name of a call gives back the numbers that it answers.
    """

    def __init__(self):
        self.size = 0
        self.ways = []

    def lay(self, east, north):
        self.size = len(east)
        self.ways = [east, north, turned_back(east), turned_back(north)]

    def begin(self, size):
        if size < 1 or size > MOST_SQUARES:
            return [NOT_RIGHT]
        squares = list(range(size))
        self.lay(squares[1:] + [0], squares)
        return [0]

    def glue(self, east, north):
        fault = gluing_fault(east, north, self.size)
        if fault != 0:
            return [fault]
        self.lay(east, north)
        return [len(round_sizes(ONCE_ROUND, self.ways))]

    def go(self, square, step):
        if square >= self.size:
            return [NO_SQUARE]
        if step > LAST_STEP:
            return [NOT_RIGHT]
        return [led_by([step], square, self.ways)]

    def walk(self, square, steps):
        if square >= self.size:
            return [NO_SQUARE]
        if len(steps) > MOST_STEPS or max(steps, default=0) > LAST_STEP:
            return [NOT_RIGHT]
        return [led_by(steps, square, self.ways)]

    def corners(self):
        return counted(round_sizes(ONCE_ROUND, self.ways))

    def corner(self, square):
        if square >= self.size:
            return [NO_SQUARE]
        return counted(squares_round(square, ONCE_ROUND, self.ways))

    def holes(self):
        return [(self.size - len(round_sizes(ONCE_ROUND, self.ways))) // 2 + 1]

    def name(self):
        return counted(least_name(self.ways[EAST], self.ways[NORTH]))

    def same(self, east, north):
        fault = gluing_fault(east, north, self.size)
        if fault != 0:
            return [fault]
        own_name = least_name(self.ways[EAST], self.ways[NORTH])
        return [1 if least_name(east, north) == own_name else 0]

    def selves(self):
        names = names_by_orders(self.ways[EAST], self.ways[NORTH])
        return [names.count(names[0])]

    def rename(self, order):
        if not tells_all_once(order, self.size):
            return [NOT_RIGHT]
        self.lay(renamed(self.ways[EAST], order), renamed(self.ways[NORTH], order))
        return [0]

    def rows(self):
        return counted(round_sizes(ALONG_ROW, self.ways))

    def columns(self):
        return counted(round_sizes(ALONG_COLUMN, self.ways))

    def near(self, start, goal):
        if start >= self.size or goal >= self.size:
            return [NO_SQUARE]
        return [fewest_steps(start, goal, self.ways)]

    def state(self):
        return [self.size] + self.ways[EAST] + self.ways[NORTH]


class Reader:
    """Takes the numbers of a list one behind another and leaves the list as it is."""

    def __init__(self, calls):
        self.calls = calls
        self.place = 0

    def has_more(self):
        return self.place < len(self.calls)

    def take(self, many):
        first = self.place
        self.place = first + many
        return self.calls[first:self.place]

    def take_one(self):
        return self.take(1)[0]

    def take_rows(self, many):
        return [self.take(self.take_one()) for turn in range(many)]


def answer(surface, call, numbers, rows):
    if call == BEGIN:
        return surface.begin(numbers[0])
    if surface.size == 0:
        return [NOT_BEGUN]
    if call == GLUE:
        return surface.glue(rows[0], rows[1])
    if call == GO:
        return surface.go(numbers[0], numbers[1])
    if call == WALK:
        return surface.walk(numbers[0], rows[0])
    if call == CORNERS:
        return surface.corners()
    if call == CORNER:
        return surface.corner(numbers[0])
    if call == HOLES:
        return surface.holes()
    if call == NAME:
        return surface.name()
    if call == SAME:
        return surface.same(rows[0], rows[1])
    if call == SELVES:
        return surface.selves()
    if call == RENAME:
        return surface.rename(rows[0])
    if call == ROWS:
        return surface.rows()
    if call == COLUMNS:
        return surface.columns()
    if call == NEAR:
        return surface.near(numbers[0], numbers[1])
    return surface.state()


def answers(calls):
    reader = Reader(calls)
    surface = Surface()
    given = []
    while reader.has_more():
        call = reader.take_one()
        shape = SHAPES[call]
        numbers = reader.take(shape[0])
        rows = reader.take_rows(shape[1])
        given.extend(counted(answer(surface, call, numbers, rows)))
    return given
