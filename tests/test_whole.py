"""The promises over the whole program: points 1, 62, 84, 107, 265, 302, 308, 322, 324, 344 and 360."""

import unittest
from itertools import combinations
from random import Random

from samples import (CHART_TABLES, PLAIN, SALES, SALES_SPEC, by_role, chart_of, column, constant, kept_by_trying, layer_of,
                     linear_scale, nearby, numbered, share_pixels, some_cell, some_chart, view_of)

from chartspec.channels import shown_channels, unread
from chartspec.comparison import compared, same
from chartspec.damages import diff, moved
from chartspec.drawing import draw, layer_tables, sketch
from chartspec.errors import ChartError, NotComparable, NotDecided, NotReadable, TooManyCases
from chartspec.guides import frame_of
from chartspec.judging import flaw
from chartspec.painting import picture, repainted
from chartspec.patches import patched, touched
from chartspec.readability import alike, drawn_alike, full_report
from chartspec.readings import plot_area, read_back
from chartspec.rebuilding import rebuilt, row_at
from chartspec.reports import report_rows, reported
from chartspec.scenes import is_keyed, keyless, without_keys
from chartspec.sessions import Session
from chartspec.shapes import around
from chartspec.tags import label_problem, labels_of

EMPTY = (0, 0, ())


def some_changes(random, spec, data):
    """Data that have much in common with some data, by a seeded generator."""
    found = []
    for (_, columns), rows in zip(spec[1], data):
        kept = [row for row in rows if random.random() < 0.8]
        kept = [(number, tuple(cell if random.random() < 0.7 else some_cell(random, kind)
                               for cell, (_, kind) in zip(cells, columns))) for number, cells in kept]
        if random.random() < 0.5:
            kept.append((50, tuple(some_cell(random, kind) for _, kind in columns)))
        found.append(tuple(kept))
    return tuple(found)


class StoryTest(unittest.TestCase):
    """A chart that is drawn, edited, patched, read back and compared."""

    def test_a_bar_chart(self):
        session = Session(SALES_SPEC, (SALES,))
        screen = patched(EMPTY, session.render())
        self.assertEqual(screen, draw(SALES_SPEC, (SALES,)))
        self.assertEqual(rebuilt(screen, SALES_SPEC, 0, 0), (("north", (1, 1)), ("south", (3, 1))))

        # A third region makes the bands narrower, and a greater sum another axis.
        session.change((("insert", "sales", (("west", (5, 1)),)),))
        preview = session.preview(())
        patch = session.render()
        self.assertEqual(patch, preview)
        self.assertIn((0, "mark 0", "3"), touched(patch))
        self.assertNotIn((0, "x axis", ""), touched(patch))
        old, screen = screen, patched(screen, patch)
        self.assertEqual(screen, session.scene)
        self.assertEqual(repainted(picture(old), screen, patch[4]), picture(screen))
        self.assertEqual(read_back(without_keys(screen), session.spec), reported(session.spec, session.data))
        self.assertEqual(rebuilt(screen, session.spec, 0, 0), (("north", (1, 1)), ("south", (3, 1)), ("west", (5, 1))))
        left, top, _, _ = plot_area(screen, 0)
        self.assertEqual(row_at(screen, session.spec, left + 83, top + 59)[:3], (0, 0, 2))

        # Taking back the change leads back to the first picture.
        session.undo()
        self.assertEqual(patched(screen, session.render()), draw(SALES_SPEC, (SALES,)))
        self.assertEqual(session.redo()[0][0], "insert")
        self.assertEqual(session.next_numbers, (4,))

    def test_two_ways_to_write_a_chart(self):
        tables = (("t", (("n", "number"), ("s", "text"))),)
        axis = linear_scale("from", (0, 1), (4, 1), axis=("", True, PLAIN))

        def chart(condition):
            layer = layer_of("point", ("x", column("n")), ("y", constant((1, 1))), transforms=(("filter", condition),))
            return chart_of(view_of(layer, x=axis, y=axis), tables=tables)

        small = ("<", column("n"), ("cell", (2, 1)))
        session = Session(chart(small), (numbered(((1, 1), "a"), ((2, 1), "b"), ((3, 1), "c")),))
        session.render()
        other = chart(("not", (">=", column("n"), ("cell", (2, 1)))))
        self.assertIsNone(compared(session.spec, other))
        session.change((("specification", other),))
        self.assertEqual(session.render(), (None, (), (), None, ()))
        third = chart(("<=", column("n"), ("cell", (2, 1))))
        self.assertEqual(compared(session.spec, third), (((1, ((2, 1), None)),),))
        session.change((("specification", third),))
        self.assertEqual([item[:3] for item in session.render()[2]], [(0, "mark 0", "2")])


class PatchTest(unittest.TestCase):
    def test_damages_repaint_pictures(self):
        """Points 62 and 84, for the scenes of charts whose data change."""
        random = Random(84)
        repainting = 0
        for _ in range(150):
            spec, data = some_chart(random)
            try:
                first, second = draw(spec, data), draw(spec, some_changes(random, spec, data))
            except ChartError:
                continue
            patch = diff(first, second)
            self.assertEqual(patched(first, patch), second)
            if patch[0] is None and first[0] * first[1] <= 20000:
                self.assertEqual(repainted(picture(first), second, patch[4]), picture(second))
                repainting += first != second
                self.assertLessEqual(len(patch[4]), len(spec[2]))
                concerned = {name[0] for name in touched(patch) + moved(first, second)}
                self.assertLessEqual(len(patch[4]), len(concerned))
        self.assertGreater(repainting, 30)

    def test_viewers_follow_a_session_by_patches_alone(self):
        """Points 302 and 344: what a viewer has by patches can be read back."""
        random = Random(344)
        for _ in range(60):
            spec, data = some_chart(random)
            session = Session(spec, data)
            screens = {0: EMPTY, session.attach(): EMPTY}
            for _ in range(6):
                edits = tuple(("update", name, ((columns[0][0], ("column", columns[random.randrange(2)][0])),),
                               ("missing", ("column", columns[1][0]))) for name, columns in CHART_TABLES[:1])
                table, columns = random.choice(CHART_TABLES)
                more = ("insert", table, (tuple(some_cell(random, kind) for _, kind in columns),))
                try:
                    session.change(random.choice((edits, (more,), (("delete", table, ("cell", random.random() < 0.2)),))))
                except ChartError:
                    pass
                viewer = random.choice((0, 1))
                screens[viewer] = patched(screens[viewer], session.render(viewer))
                self.assertTrue(is_keyed(screens[viewer]))
                self.assertEqual(screens[viewer], session.seen(viewer))
                self.assertEqual(read_back(without_keys(screens[viewer]), session.spec),
                                 reported(session.spec, session.data))
                if session.can_undo and random.random() < 0.3:
                    session.undo()


class LabelTest(unittest.TestCase):
    def test_placements_have_no_flaw_and_place_the_kept_labels(self):
        """Point 107, for the labels of charts, against all placements there are."""
        random = Random(107)
        labelled = 0
        for _ in range(600):
            spec, data = some_chart(random, views=1)
            tables = layer_tables(spec, data, 0)
            frame = frame_of(spec, 0, tables)[0]
            layers = spec[2][0][6]
            for number in range(len(layers)):
                task = label_problem(frame, layers, tables, number)
                places = tuple(label[4] for label in labels_of(frame, layers, tables, number))
                self.assertIsNone(flaw(task, places))
                kept = tuple(at for at, place in enumerate(places) if place in (0, 1))
                self.assertEqual(kept, kept_by_trying(task))
                labelled += len(places)
        self.assertGreater(labelled, 100)

    def test_no_two_labels_of_marks_in_a_plot_overlap(self):
        """Point 265, in scenes."""
        random = Random(265)
        pairs = 0
        for _ in range(600):
            spec, data = some_chart(random)
            for number in range(len(spec[2])):
                labels = [around(*item[3:6]) for item in draw(spec, data)[2]
                          if item[0] == number and item[1].startswith("label ")]
                for first, second in combinations(labels, 2):
                    self.assertFalse(share_pixels(first, second))
                    pairs += 1
        self.assertGreater(pairs, 10)


class ReadingTest(unittest.TestCase):
    def test_rebuilt_data_draw_the_same_marks(self):
        """Point 308, with a session over the rebuilt rows of charts whose scales are declared."""
        random = Random(308)
        found = 0
        while found < 60:
            spec, data = some_chart(random, layers=1, views=1)
            view = spec[2][0]
            layer = view[6][0]
            scales = [scale[1][0] in ("from", "of") for scale in view[3:6]]
            if layer[1] or layer[5] is not None or layer[2] == "bar" or not all(scales):
                continue
            try:
                rows = rebuilt(draw(spec, data), spec, 0, 0)
            except NotReadable:
                continue
            table = [name for name, _ in CHART_TABLES].index(layer[0])
            again = tuple(numbered(*rows) if at == table else () for at in range(2))
            marks = [without_keys(Session(spec, each).scene)[2] for each in (data, again)]
            self.assertEqual(by_role(marks[0], "mark 0"), by_role(marks[1], "mark 0"))
            found += 1

    def test_channels_that_cannot_be_read_and_tables_that_are_drawn_the_same(self):
        """Points 322 and 324, in charts with one layer."""
        random = Random(322)
        blind, decided = 0, 0
        while blind < 100 or decided < 100:
            spec, _ = some_chart(random, layers=1, views=1)
            layer = spec[2][0][6][0]
            for _, _, channel in unread(spec):
                try:
                    first, second = alike(spec, 0, channel)
                except NotDecided:
                    continue
                self.assertTrue(drawn_alike(spec, 0, first, second))
                blind += 1
                columns, place = self.column_of(spec, layer, channel)
                frames = [frame_of(spec, 0, ((columns, ((((1, 1),), cells, (1,)),)),))[0] for cells in (first, second)]
                self.assertNotEqual(*[full_report(frame, channel, cells[place])
                                      for frame, cells in zip(frames, (first, second))])
            if not unread(spec) and layer[5] is None and shown_channels(layer):
                columns, _ = self.column_of(spec, layer, shown_channels(layer)[0])
                decided += self.drawing_decides(random, spec, columns)

    def column_of(self, spec, layer, channel):
        """The columns of the last table of the only layer, and the place of the column of a channel."""
        columns = layer_tables(spec, ((),) * len(spec[1]), 0)[0][0]
        return columns, [name for name, _ in columns].index(dict(layer[3])[channel][1])

    def drawing_decides(self, random, spec, columns):
        """Two tables that are drawn the same have the same report; True if there are such tables."""
        rows = [tuple(some_cell(random, kind) for _, kind in columns) for _ in range(3)]
        found = []
        for keys in ((1, 2, 3), (7, 8, 9)):
            table = (columns, tuple((((key, 1),), cells, (key,)) for key, cells in zip(keys, rows)))
            try:
                found.append((keyless(sketch(spec, 0, (table,))),
                              report_rows(spec, 0, 0, frame_of(spec, 0, (table,))[0], table)))
            except ChartError:
                return False
            rows = [tuple(nearby(random, cell) for cell in cells) for cells in rows]
        if found[0][0] == found[1][0]:
            self.assertEqual(found[0][1], found[1][1])
        return found[0][0] == found[1][0]


class ComparisonTest(unittest.TestCase):
    def test_comparing_a_chart_with_its_edits(self):
        """Point 360: None for what is drawn the same with all data that are tried, otherwise data that show it."""
        random = Random(360)
        kinds = {True: 0, False: 0}
        for _ in range(300):
            spec, data = some_chart(random, marks=("point", "rule", "bar"), views=1, layers=1)
            session = Session(spec, data)
            domain = random.choice((spec[2][0][3][1], ("from", (0, 1), (10, 1)), ("from", (0, 1), (9, 1))))
            try:
                session.change((("domain", "v0", "x", domain),) if spec[2][0][3][0] == "linear" else ())
                found = compared(spec, session.spec)
            except (NotComparable, TooManyCases, ChartError):
                continue
            kinds[found is None] += 1
            if found is None:
                for _ in range(10):
                    self.assertTrue(same(spec, session.spec, some_changes(random, spec, data)))
            else:
                self.assertFalse(same(spec, session.spec, found))
                self.assertLessEqual(sum(len(rows) for rows in found), 1)
        self.assertGreater(min(kinds.values()), 5)


if __name__ == "__main__":
    unittest.main()
