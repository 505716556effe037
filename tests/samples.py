"""Scenes and helpers for the tests."""

from itertools import combinations, product

from chartspec.scenes import paint_of

PAGE = (None, "background", "", "rectangle", (0, 0, 10, 6), "", "#ffffff", None, None)
ONE = (0, "mark 0", "1", "rectangle", (1, 1, 2, 4), "", "#3a6ea8", None, None)
TWO = (0, "mark 0", "2", "rectangle", (4, 3, 2, 2), "", "#3a6ea8", None, None)
GROWN = (0, "mark 0", "2", "rectangle", (4, 2, 2, 3), "", "#3a6ea8", None, None)
THREE = (0, "mark 0", "3", "rectangle", (7, 0, 2, 5), "", "#3a6ea8", None, None)
BEFORE = (10, 6, (PAGE, ONE, TWO))
AFTER = (10, 6, (PAGE, GROWN, THREE))

EMPTY_PATCH = (None, (), (), None, ())

# The problem of point 108.
TASK = ((0, 0, 30, 20), (), (((0, 0, 10, 7), (0, 10, 10, 7)), ((5, 0, 10, 7), (5, 10, 10, 7)),
                             ((8, 0, 10, 7), (8, 5, 10, 7))))


def pair(value):
    """A fraction of the program with the value of one of Python's own."""
    return (value.numerator, value.denominator)


def block(plot, key, rectangle=(0, 0, 1, 1), *, role="mark 0", fill="#000000", clip=None):
    """A rectangle as a primitive."""
    return (plot, role, key, "rectangle", rectangle, "", fill, None, clip)


def name_of(primitive):
    return primitive[:3]


def pixels_of(rectangle):
    """The set of the pixels of a rectangle, found without the program."""
    left, top, width, height = rectangle
    return set(product(range(left, left + width), range(top, top + height)))


def small_rectangles(sizes, places):
    """All rectangles with these widths, heights, left and upper edges."""
    return [(left, top, width, height)
            for left, top, width, height in product(places, places, sizes, sizes)]


def painting(scene):
    """The color of each pixel of the page, by the last primitive that paints it."""
    width, height, items = scene
    colors = {}
    for x, y in product(range(width), range(height)):
        found = [paint_of(item, x, y) for item in items]
        colors[x, y] = ([color for color in found if color is not None] or ["#ffffff"])[-1]
    return colors


def some_primitive(random, plot, role, key):
    """A primitive with this identity and any small form, by a seeded generator."""
    def place():
        return random.randrange(-3, 12)

    def color():
        return random.choice((None, "#000000", "#3a6ea8", "#e5832f"))

    shape = random.choice(("rectangle", "line", "polyline", "circle", "text start", "text middle", "text end"))
    text = ""
    if shape == "rectangle":
        points = (place(), place(), random.randrange(6), random.randrange(6))
    elif shape == "line":
        points = (place(), place(), place(), place())
    elif shape == "polyline":
        points = tuple(place() for _ in range(2 * random.randrange(1, 4)))
    elif shape == "circle":
        points = (place(), place(), random.randrange(4))
    else:
        points = (place(), place())
        text = random.choice(("", "a", "i b", "-"))
    clip = random.choice((None, None, (0, 0, 8, 5), (2, 1, 0, 4), (1, 1, 3, 3)))
    return (plot, role, key, shape, points, text, color(), color(), clip)


def some_scene(random, size):
    """A keyed scene with a page of this size, by a seeded generator."""
    names = list(product((None, 0, 1), ("mark 0",), ("a", "b", "c")))
    random.shuffle(names)
    return size + (tuple(some_primitive(random, *name) for name in names[:random.randrange(8)]),)


def some_change(random, scene):
    """A keyed scene that has much in common with a keyed scene, by a seeded generator."""
    width, height, items = scene
    kept = [item for item in items if random.random() < 0.8]
    kept = [item if random.random() < 0.8 else some_primitive(random, *name_of(item)) for item in kept]
    names = [(plot, "mark 0", key) for plot in (None, 0, 1) for key in ("a", "b", "c", "d")]
    free = [name for name in names if name not in [name_of(item) for item in items]]
    kept += [some_primitive(random, *name) for name in free if random.random() < 0.2]
    for _ in range(random.randrange(3)):
        if len(kept) > 1:
            kept.insert(random.randrange(len(kept)), kept.pop(random.randrange(len(kept))))
    if random.random() < 0.1:
        width, height = random.choice(((0, 0), (width + 1, height), (width, height + 2), (0, height)))
    return (width, height, tuple(kept))


def share_pixels(first, second):
    """True if two rectangles have a pixel in common, found by their pixels."""
    return bool(pixels_of(first) & pixels_of(second))


def some_problem(random, labels):
    """A small problem with this many labels, by a seeded generator."""
    def rectangle():
        return (random.randrange(-1, 10), random.randrange(-1, 6), random.randrange(5), random.randrange(4))

    pairs = []
    for _ in range(labels):
        first = rectangle()
        pairs.append((first, random.choice((first, rectangle(), rectangle(), rectangle()))))
    obstacles = tuple(rectangle() for _ in range(random.choice((0, 0, 1, 2))))
    return ((0, 0, 12, 8), obstacles, tuple(pairs))


def free_choice(problem, choice):
    """True if a choice is free, found by the pixels and the edges of its rectangle."""
    (left, top, width, height), obstacles, labels = problem
    x, y, wide, high = place = labels[choice[0]][choice[1]]
    within = left <= x and top <= y and x + wide <= left + width and y + high <= top + height
    return within and not any(share_pixels(place, obstacle) for obstacle in obstacles)


def is_placement(problem, among, sides):
    """True if labels can have these sides together."""
    chosen = [problem[2][label][side] for label, side in zip(among, sides)]
    return (all(free_choice(problem, choice) for choice in zip(among, sides))
            and not any(share_pixels(first, second) for first, second in combinations(chosen, 2)))


def placements_of(problem, among):
    """All sides that some labels can have together, in ascending order, found by trying."""
    return [sides for sides in product((0, 1), repeat=len(among)) if is_placement(problem, among, sides)]


def kept_by_trying(problem):
    """The kept labels of a problem, found by trying."""
    kept = ()
    for label in range(len(problem[2])):
        if placements_of(problem, kept + (label,)):
            kept += (label,)
    return kept
