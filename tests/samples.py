"""Scenes and helpers for the tests."""

from fractions import Fraction
from itertools import combinations, product

from chartspec.checking import check_spec
from chartspec.drawing import draw
from chartspec.errors import ChartError
from chartspec.layers import MARK_CHANNELS
from chartspec.scenes import paint_of
from chartspec.transforms import columns_after

PAGE = (None, "background", "", "rectangle", (0, 0, 10, 6), "", "#ffffff", None, None)
ONE = (0, "mark 0", "1", "rectangle", (1, 1, 2, 4), "", "#3a6ea8", None, None)
TWO = (0, "mark 0", "2", "rectangle", (4, 3, 2, 2), "", "#3a6ea8", None, None)
GROWN = (0, "mark 0", "2", "rectangle", (4, 2, 2, 3), "", "#3a6ea8", None, None)
THREE = (0, "mark 0", "3", "rectangle", (7, 0, 2, 5), "", "#3a6ea8", None, None)
BEFORE = (10, 6, (PAGE, ONE, TWO))
AFTER = (10, 6, (PAGE, GROWN, THREE))

EMPTY_PATCH = (None, (), (), None, ())

# The problem of point 108.
TASK = ((0, 0, 30, 20), (), (((0, 0, 10, 7), (0, 10, 10, 7)), ((5, 0, 10, 7), (5, 10, 10, 7)),
                             ((8, 0, 10, 7), (8, 5, 10, 7))))


def pair(value):
    """A fraction of the program with the value of one of Python's own."""
    return (value.numerator, value.denominator)


def block(plot, key, rectangle=(0, 0, 1, 1), *, role="mark 0", fill="#000000", clip=None):
    """A rectangle as a primitive."""
    return (plot, role, key, "rectangle", rectangle, "", fill, None, clip)


def name_of(primitive):
    return primitive[:3]


def pixels_of(rectangle):
    """The set of the pixels of a rectangle, found without the program."""
    left, top, width, height = rectangle
    return set(product(range(left, left + width), range(top, top + height)))


def small_rectangles(sizes, places):
    """All rectangles with these widths, heights, left and upper edges."""
    return [(left, top, width, height)
            for left, top, width, height in product(places, places, sizes, sizes)]


def painting(scene):
    """The color of each pixel of the page, by the last primitive that paints it."""
    width, height, items = scene
    colors = {}
    for x, y in product(range(width), range(height)):
        found = [paint_of(item, x, y) for item in items]
        colors[x, y] = ([color for color in found if color is not None] or ["#ffffff"])[-1]
    return colors


def some_primitive(random, plot, role, key):
    """A primitive with this identity and any small form, by a seeded generator."""
    def place():
        return random.randrange(-3, 12)

    def color():
        return random.choice((None, "#000000", "#3a6ea8", "#e5832f"))

    shape = random.choice(("rectangle", "line", "polyline", "circle", "text start", "text middle", "text end"))
    text = ""
    if shape == "rectangle":
        points = (place(), place(), random.randrange(6), random.randrange(6))
    elif shape == "line":
        points = (place(), place(), place(), place())
    elif shape == "polyline":
        points = tuple(place() for _ in range(2 * random.randrange(1, 4)))
    elif shape == "circle":
        points = (place(), place(), random.randrange(4))
    else:
        points = (place(), place())
        text = random.choice(("", "a", "i b", "-"))
    clip = random.choice((None, None, (0, 0, 8, 5), (2, 1, 0, 4), (1, 1, 3, 3)))
    return (plot, role, key, shape, points, text, color(), color(), clip)


def some_scene(random, size):
    """A keyed scene with a page of this size, by a seeded generator."""
    names = list(product((None, 0, 1), ("mark 0",), ("a", "b", "c")))
    random.shuffle(names)
    return size + (tuple(some_primitive(random, *name) for name in names[:random.randrange(8)]),)


def some_change(random, scene):
    """A keyed scene that has much in common with a keyed scene, by a seeded generator."""
    width, height, items = scene
    kept = [item for item in items if random.random() < 0.8]
    kept = [item if random.random() < 0.8 else some_primitive(random, *name_of(item)) for item in kept]
    names = [(plot, "mark 0", key) for plot in (None, 0, 1) for key in ("a", "b", "c", "d")]
    free = [name for name in names if name not in [name_of(item) for item in items]]
    kept += [some_primitive(random, *name) for name in free if random.random() < 0.2]
    for _ in range(random.randrange(3)):
        if len(kept) > 1:
            kept.insert(random.randrange(len(kept)), kept.pop(random.randrange(len(kept))))
    if random.random() < 0.1:
        width, height = random.choice(((0, 0), (width + 1, height), (width, height + 2), (0, height)))
    return (width, height, tuple(kept))


def share_pixels(first, second):
    """True if two rectangles have a pixel in common, found by their pixels."""
    return bool(pixels_of(first) & pixels_of(second))


def some_problem(random, labels):
    """A small problem with this many labels, by a seeded generator."""
    def rectangle():
        return (random.randrange(-1, 10), random.randrange(-1, 6), random.randrange(5), random.randrange(4))

    pairs = []
    for _ in range(labels):
        first = rectangle()
        pairs.append((first, random.choice((first, rectangle(), rectangle(), rectangle()))))
    obstacles = tuple(rectangle() for _ in range(random.choice((0, 0, 1, 2))))
    return ((0, 0, 12, 8), obstacles, tuple(pairs))


def free_choice(problem, choice):
    """True if a choice is free, found by the pixels and the edges of its rectangle."""
    (left, top, width, height), obstacles, labels = problem
    x, y, wide, high = place = labels[choice[0]][choice[1]]
    within = left <= x and top <= y and x + wide <= left + width and y + high <= top + height
    return within and not any(share_pixels(place, obstacle) for obstacle in obstacles)


def is_placement(problem, among, sides):
    """True if labels can have these sides together."""
    chosen = [problem[2][label][side] for label, side in zip(among, sides)]
    return (all(free_choice(problem, choice) for choice in zip(among, sides))
            and not any(share_pixels(first, second) for first, second in combinations(chosen, 2)))


def placements_of(problem, among):
    """All sides that some labels can have together, in ascending order, found by trying."""
    return [sides for sides in product((0, 1), repeat=len(among)) if is_placement(problem, among, sides)]


def kept_by_trying(problem):
    """The kept labels of a problem, found by trying."""
    kept = ()
    for label in range(len(problem[2])):
        if placements_of(problem, kept + (label,)):
            kept += (label,)
    return kept


# The chart of point 2 and its data.
PLAIN = ("", "", False)
REGION = ("band", ("fit",), False, False, 5, ("", False, PLAIN))
TOTAL = ("linear", ("zero",), False, False, 3, ("total", True, PLAIN))
BAR = ("sales", (), "bar", (("x", ("column", "region")), ("y", ("column", "total"))), "#3a6ea8", None)
MAIN = ("main", "", (100, 60), REGION, TOTAL, ("plain", ("fit",), None), (BAR,))
SALES_TABLES = (("sales", (("region", "text"), ("total", "number"))),)
SALES_SPEC = ("Sales", SALES_TABLES, (MAIN,), ((0,),))
SALES = ((1, ("north", (1, 1))), (2, ("south", (3, 1))))

# The chart of point 310.
TO_TEN = ("linear", ("from", (0, 1), (10, 1)), False, False, 5, None)
LETTERS = ("band", ("of", ("p", "q")), False, False, 5, None)
DOTS = ("t", (), "point", (("x", ("column", "a")), ("y", ("column", "b"))), "#000000", None)
SMALL_TABLES = (("t", (("a", "number"), ("b", "text"))),)
SMALL_SPEC = ("", SMALL_TABLES, (("v", "", (20, 20), TO_TEN, LETTERS, ("plain", ("fit",), None), (DOTS,)),), ((0,),))
SMALL_DATA = (((1, ((5, 1), "q")), (2, (None, "p"))),)


def column(name):
    return ("column", name)


def constant(cell):
    return ("constant", cell)


def linear_scale(*domain, backwards=False, clamped=False, ticks=5, axis=None):
    return ("linear", domain, backwards, clamped, ticks, axis)


def band_scale(*domain, backwards=False, clamped=False, axis=None):
    return ("band", domain, backwards, clamped, 5, axis)


def layer_of(mark, *channels, table="t", transforms=(), paint="#000000", label=None):
    return (table, transforms, mark, channels, paint, label)


def view_of(*layers, name="v", title="", size=(20, 20), x=TO_TEN, y=TO_TEN, color=("plain", ("fit",), None)):
    return (name, title, size, x, y, color, layers)


def chart_of(*views, tables=SMALL_TABLES, title="", rows=None):
    return (title, tables, views, rows if rows is not None else (tuple(range(len(views))),))


def numbered(*rows):
    """The data of a data table with these rows of cells, numbered from 1 on."""
    return tuple((number, cells) for number, cells in enumerate(rows, 1))


def whole(*numbers):
    """Fractions that are these integers; None stays as it is."""
    return tuple(None if number is None else (number, 1) for number in numbers)


def by_role(items, *roles):
    """The primitives with one of these roles, in their order."""
    return [item for item in items if item[1] in roles]


# What random charts are made of.
CELLS = {
    "number": ((0, 1), (1, 1), (2, 1), (-3, 1), (1, 2), (7, 3), (10, 1), (25, 2), (1200, 1)),
    "text": ("", "a", "b", "north", "say \"no\"", "1"),
    "boolean": (False, True),
}
KINDS = ("number", "number", "text", "boolean")
CHART_TABLES = (("t", (("a", "number"), ("b", "text"), ("c", "boolean"), ("d", "number"))),
                ("u", (("k", "text"), ("v", "number"))))
FORMATS = (PLAIN, ("$", "", True), ("", " cm", False))
PALETTES = ("plain", "safe", "dark")
SIDES = ("above", "below", "left", "right", "center")
ALL_MARKS = ("point", "bar", "line", "rule", "text")


def some_cell(random, kind):
    return None if random.random() < 0.15 else random.choice(CELLS[kind])


def nearby(random, cell):
    """The cell, or a number that is very near to it, by a seeded generator."""
    if isinstance(cell, tuple) and random.random() < 0.5:
        return pair(Fraction(*cell) + Fraction(1, 1000))
    return cell


def some_data(random, tables, most=6):
    """Data for data tables, by a seeded generator."""
    found = []
    for _, columns in tables:
        numbers = sorted(random.sample(range(1, 30), random.randrange(most + 1)))
        found.append(tuple((number, tuple(some_cell(random, kind) for _, kind in columns)) for number in numbers))
    return tuple(found)


def some_domain(random, kind):
    """A domain of a band scale or a color scale of this kind."""
    if random.random() < 0.5:
        return ("fit",)
    cells = CELLS[kind]
    return ("of", tuple(random.sample(cells, random.randrange(1, min(4, len(cells)) + 1))))


def some_scale(random, kind):
    """A scale for cells of this kind, by a seeded generator."""
    backwards, clamped = random.random() < 0.4, random.random() < 0.3
    axis = None
    if random.random() < 0.7:
        axis = (random.choice(("", "", "title")), random.random() < 0.5, random.choice(FORMATS))
    if kind != "number" or random.random() < 0.2:
        return ("band", some_domain(random, kind), backwards, clamped, 5, axis)
    low, high = sorted(random.sample(CELLS["number"], 2), key=lambda cell: cell[0] / cell[1])
    domain = random.choice((("fit",), ("zero",), ("from", low, high)))
    return ("linear", domain, backwards, clamped, random.randrange(1, 8), axis)


def some_source(random, columns, kind):
    """A source of this kind, or of any kind if it is None, by a seeded generator."""
    fitting = [name for name, own in columns if kind in (None, own)]
    if fitting and random.random() < 0.85:
        return ("column", random.choice(fitting))
    return ("constant", random.choice(CELLS[kind or random.choice(KINDS)]))


def some_transforms(random):
    """A few transforms for the first one of CHART_TABLES, by a seeded generator."""
    number, text = random.choice(CELLS["number"]), random.choice(CELLS["text"])
    found = (
        ("filter", ("or", ("<", ("column", "a"), ("cell", number)), ("=", ("column", "b"), ("cell", text)))),
        ("filter", ("not", ("missing", ("column", "d")))),
        ("derive", "e", ("*", ("column", "d"), ("cell", (2, 1)))),
        ("bin", "a", (5, 1), "low", "high"),
        ("sort", (("d", True), ("b", False))),
        ("take", random.randrange(6)),
        ("group", random.choice(((), ("b",), ("c", "b"))), (("n", "count", None), ("s", "sum", "a"),
                                                            ("l", "least", "b"))),
        ("stack", "a", random.choice(((), ("c",))), (("d", False),), "low", "high"),
    )
    return tuple(random.sample(found, random.choice((0, 0, 0, 1, 1, 2))))


def some_layer(random, kinds, number, marks):
    """A layer for scales of these kinds (x, y, color), the number of layers of its view, by a seeded generator."""
    table, columns = random.choice(CHART_TABLES)
    transforms = some_transforms(random) if table == "t" else ()
    for transform in transforms:
        columns = columns_after(columns, transform)
    mark = random.choice(marks)
    x, y, color = kinds
    given = {"x": x, "y": y, "color": color, "detail": None, "text": None, "x2": x, "y2": y}
    channels = []
    for channel in MARK_CHANNELS[mark]:
        if channel in ("x", "y", "text") and random.random() < 0.95 or random.random() < 0.4:
            channels.append((channel, some_source(random, columns, given[channel])))
    random.shuffle(channels)
    label = None
    if mark != "line" and random.random() < 0.4:
        keys = ((random.choice(columns)[0], random.random() < 0.5),)
        avoid = tuple(random.sample(range(number), random.randrange(number + 1)))
        label = (random.choice(columns)[0], keys, random.choice(SIDES), random.choice(SIDES), avoid)
    return (table, transforms, mark, tuple(channels), random.choice(("#3a6ea8", "#222222", "#eedd33")), label)


def some_view(random, name, marks=ALL_MARKS, layers=None):
    """A view, by a seeded generator; it may have errors."""
    kinds = [random.choice(KINDS) for _ in range(3)]
    x, y = some_scale(random, kinds[0]), some_scale(random, kinds[1])
    color = (random.choice(PALETTES), some_domain(random, kinds[2]), random.choice((None, "", "colors")))
    many = random.randrange(4) if layers is None else layers
    found = tuple(some_layer(random, kinds, many, marks) for _ in range(many))
    size = (random.choice((4, 9, 20, 57)), random.choice((4, 10, 33)))
    return (name, random.choice(("", "", "view")), size, x, y, color, found)


def some_chart(random, marks=ALL_MARKS, layers=None, views=None):
    """A specification without errors and data that it draws, by a seeded generator."""
    while True:
        many = random.choice((1, 1, 2, 3)) if views is None else views
        numbers = random.sample(range(many), many)
        rows = random.choice(((tuple(numbers),), tuple((number,) for number in numbers)))
        try:
            found = tuple(some_view(random, f"v{number}", marks, layers) for number in range(many))
            spec = (random.choice(("", "Chart")), CHART_TABLES, found, rows)
            check_spec(spec)
            data = some_data(random, CHART_TABLES)
            draw(spec, data)
        except ChartError:
            continue
        return spec, data
