"""Points 340 to 345, with points 61 to 64, 225 and 268."""

import copy
import unittest
from random import Random

from samples import (CHART_TABLES, PLAIN, SALES, SALES_SPEC, band_scale, chart_of, column, layer_of, linear_scale,
                     numbered, some_cell, some_chart, view_of, whole)

from chartspec.checking import check_spec
from chartspec.damages import diff
from chartspec.drawing import draw
from chartspec.errors import (ChannelNeeded, ChartError, DuplicateName, NothingToRedo, NothingToUndo, ScalesDoNotFit,
                              TooManyCategories, TooManyRows, UnknownName, WrongKind)
from chartspec.patches import misfit, patched
from chartspec.sessions import Session

COLUMNS = (("n", "number"), ("m", "number"), ("s", "text"))
TABLES = (("t", COLUMNS), ("u", (("k", "boolean"),)))
N, M, S = (column(name) for name in "nms")
POINT = layer_of("point", ("x", N), ("y", M))
SPEC = chart_of(view_of(POINT), tables=TABLES)
ALL = ("cell", True)
EMPTY = (0, 0, ())


def row(n, m, s=None):
    return whole(n, m) + (s,)


DATA = (((1, row(1, 2, "a")), (3, row(4, 5, "b")), (7, row(6, 7, "c"))), ())


def state_of(session):
    return (session.spec, session.data, session.next_numbers, session.scene)


def history_of(session):
    return (state_of(session), list(session), len(session), session.can_undo, session.can_redo)


class SessionTest(unittest.TestCase):
    def start(self, spec=SPEC, data=DATA, **more):
        return Session(spec, data, **more)

    def refuse(self, session, edits, error, value=None):
        """The change is refused with this error, and changes nothing; so is its preview."""
        before, seen = history_of(session), session.seen(0)
        for attempt in (session.change, session.preview):
            with self.assertRaises(ChartError) as caught:
                attempt(edits)
            self.assertIs(type(caught.exception), error)
            if value is not None:
                found = caught.exception.count if error is TooManyCategories else caught.exception.name
                self.assertEqual(found, value)
            self.assertEqual(history_of(session), before)
            self.assertEqual(session.seen(0), seen)


class ExampleTest(SessionTest):
    def test_the_example_of_the_interface(self):
        session = Session(SALES_SPEC, (SALES,))
        patch = session.render()
        self.assertEqual((len(patch[2]), patch[1:2] + patch[3:4] + patch[4:]), (23, ((), None, ((0, 0, 131, 123),))))
        self.assertIsNone(session.change((("update", "sales", (("total", ("cell", (2, 1))),),
                                           ("=", ("column", "region"), ("cell", "south"))),)))
        patch = session.preview(())
        self.assertEqual((patch[2][0][1:3], patch[2][2][1:3]), (("y grid", "1"), ("mark 0", "1")))
        self.assertEqual(session.data, (((1, ("north", (1, 1))), (2, ("south", (2, 1)))),))
        self.assertEqual((len(session), session.undo()[0][0], session.can_redo, session.render()),
                         (1, "update", True, (None, (), (), None, ())))


class StartTest(SessionTest):
    def test_the_state(self):
        session = self.start()
        self.assertEqual(state_of(session), (SPEC, DATA, (8, 1), draw(SPEC, DATA)))
        self.assertEqual((len(session), list(session), session.can_undo, session.can_redo), (0, [], False, False))

    def test_data_without_rows(self):
        self.assertEqual(self.start(data=((), ())).next_numbers, (1, 1))

    def test_errors_of_the_specification(self):
        for spec, error, value in (
                (chart_of(view_of(), tables=TABLES + (("t", COLUMNS),)), DuplicateName, "t"),
                (chart_of(view_of(layer_of("point", ("x", N))), tables=TABLES), ChannelNeeded, "y"),
                (chart_of(view_of(layer_of("bar", ("x", N), ("y", M))), tables=TABLES), ScalesDoNotFit, "v"),
                (chart_of(view_of(layer_of("rule", ("x", column("z")))), tables=TABLES), UnknownName, "z")):
            # If the specification has errors, the data need not fit it.
            for data in (DATA, (), (((1, (None,)),),)):
                with self.assertRaises(error) as caught:
                    Session(spec, data)
                self.assertEqual(caught.exception.name, value)

    def test_too_many_categories(self):
        data = (numbered(*[row(1, number, letter) for number, letter in enumerate("abcde")]), ())
        fitted = view_of(layer_of("rule", ("x", S)), size=(4, 4), x=band_scale("fit"))
        with self.assertRaises(TooManyCategories) as caught:
            Session(chart_of(fitted, tables=TABLES), data)
        self.assertEqual(caught.exception.count, 5)
        # The errors of the specification come first.
        with self.assertRaises(DuplicateName):
            Session(chart_of(fitted, view_of(), view_of(), tables=TABLES), data)
        with self.assertRaises(TooManyCategories):
            Session(chart_of(view_of(size=(4, 4), x=band_scale("of", tuple("abcdef"))), tables=TABLES), data)

    def test_sessions_do_not_share_anything(self):
        first, second = self.start(), self.start()
        first.change((("delete", "t", ALL),))
        first.attach()
        first.render(1)
        self.assertEqual(history_of(second), history_of(self.start()))
        self.assertEqual(second.attach(), 1)


class InsertTest(SessionTest):
    def test_rows_at_the_end(self):
        session = self.start()
        self.assertIsNone(session.change((("insert", "t", (row(8, 9, "d"), row(None, 1))),)))
        self.assertEqual(session.data, (DATA[0] + ((8, row(8, 9, "d")), (9, row(None, 1))), ()))
        self.assertEqual(session.next_numbers, (10, 1))
        self.assertEqual(session.spec, SPEC)
        self.assertEqual(session.scene, draw(SPEC, session.data))

    def test_the_table_with_the_name(self):
        session = self.start()
        session.change((("insert", "u", ((True,),)),))
        self.assertEqual((session.data, session.next_numbers), ((DATA[0], ((1, (True,)),)), (8, 2)))

    def test_no_rows(self):
        session = self.start(data=(((9999, row(1, 1)),), ()))
        self.assertEqual(session.next_numbers, (10000, 1))
        session.change((("insert", "t", ()),))
        self.assertEqual((session.data, session.next_numbers), ((((9999, row(1, 1)),), ()), (10000, 1)))

    def test_at_most_forty_rows(self):
        session = self.start()
        session.change((("insert", "t", (row(1, 1),) * 37),))
        self.assertEqual((len(session.data[0]), session.next_numbers), (40, (45, 1)))
        self.refuse(session, (("insert", "t", (row(1, 1),)),), TooManyRows, "t")
        session.change((("insert", "t", ()), ("insert", "u", ((None,),) * 40)))
        self.refuse(session, (("insert", "u", ((None,),)),), TooManyRows, "u")
        self.refuse(self.start(), (("insert", "t", (row(1, 1),) * 38),), TooManyRows, "t")

    def test_numbers_up_to_9999(self):
        session = self.start(data=(((9997, row(1, 1)),), ()))
        self.refuse(session, (("insert", "t", (row(1, 1),) * 3),), TooManyRows, "t")
        session.change((("insert", "t", (row(1, 1),) * 2),))
        self.assertEqual([number for number, _ in session.data[0]], [9997, 9998, 9999])
        self.assertEqual(session.next_numbers, (10000, 1))
        self.refuse(session, (("insert", "t", (row(1, 1),)),), TooManyRows, "t")
        # Deleting rows makes room for rows, but not for numbers.
        self.refuse(session, (("delete", "t", ALL), ("insert", "t", (row(1, 1),))), TooManyRows, "t")

    def test_an_unknown_table(self):
        self.refuse(self.start(), (("insert", "z", ()),), UnknownName, "z")
        self.refuse(self.start(), (("insert", "v", ()),), UnknownName, "v")


class DeleteTest(SessionTest):
    def test_rows_for_which_the_condition_is_true(self):
        for condition, numbers in ((ALL, []), (("cell", False), [1, 3, 7]), (("nothing", "boolean"), [1, 3, 7]),
                                   ((">", N, ("cell", (1, 1))), [1]), (("=", S, ("cell", "b")), [1, 7])):
            session = self.start()
            session.change((("delete", "t", condition),))
            self.assertEqual([number for number, _ in session.data[0]], numbers)
            self.assertEqual(session.next_numbers, (8, 1))

    def test_missing_cells(self):
        session = self.start(data=(numbered(row(None, 1), row(1, 1)), ()))
        session.change((("delete", "t", ("not", ("=", N, ("cell", (5, 1))))),))
        self.assertEqual(session.data[0], ((1, row(None, 1)),))

    def test_numbers_are_not_given_again(self):
        session = self.start()
        session.change((("delete", "t", ALL), ("insert", "t", (row(1, 1),))))
        self.assertEqual((session.data[0], session.next_numbers), (((8, row(1, 1)),), (9, 1)))
        session.change((("delete", "t", ALL),))
        session.change((("insert", "t", (row(2, 2),)),))
        self.assertEqual(session.data[0], ((9, row(2, 2)),))

    def test_errors(self):
        session = self.start()
        self.refuse(session, (("delete", "z", ("column", "y")),), UnknownName, "z")
        self.refuse(session, (("delete", "t", ("and", ("column", "y"), ("column", "x"))),), UnknownName, "y")
        self.refuse(session, (("delete", "t", ("=", N, ("column", "x"))),), UnknownName, "x")
        self.refuse(session, (("delete", "t", N),), WrongKind, "delete")
        self.refuse(session, (("delete", "t", ("=", N, S)),), WrongKind, "delete")
        # The rows of the table play no part.
        self.refuse(session, (("delete", "u", N),), UnknownName, "n")
        self.refuse(session, (("delete", "u", ("text", ("column", "k"))),), WrongKind, "delete")


class UpdateTest(SessionTest):
    def test_assignments(self):
        session = self.start()
        session.change((("update", "t", (("n", ("+", N, M)), ("m", N)), (">", N, ("cell", (1, 1)))),))
        self.assertEqual(session.data[0], ((1, row(1, 2, "a")), (3, row(9, 4, "b")), (7, row(13, 6, "c"))))
        self.assertEqual(session.next_numbers, (8, 1))

    def test_no_assignments(self):
        session = self.start()
        session.change((("update", "t", (), ALL),))
        self.assertEqual((session.data, len(session)), (DATA, 1))

    def test_rows_for_which_the_condition_is_not_true(self):
        for condition in (("cell", False), ("nothing", "boolean")):
            session = self.start()
            session.change((("update", "t", (("n", M),), condition),))
            self.assertEqual(session.data, DATA)

    def test_missing_and_too_large_values(self):
        session = self.start()
        session.change((("update", "t", (("n", ("/", N, ("cell", (0, 1)))), ("s", ("nothing", "text"))), ALL),))
        self.assertEqual(session.data[0][1], (3, row(None, 5)))

    def test_errors(self):
        session = self.start()
        for assignments, condition, error, value in (
                ((("x", N),), ALL, UnknownName, "x"), ((("n", ("+", ("column", "y"), ("column", "x"))),), ALL, UnknownName, "y"),
                ((("x", ("column", "y")),), ALL, UnknownName, "x"), ((("n", S),), ALL, WrongKind, "update"),
                ((("n", ("+", N, S)),), ALL, WrongKind, "update"), ((("n", N),), ("column", "y"), UnknownName, "y"),
                ((("n", N),), N, WrongKind, "update"), ((("n", N),), ("=", N, S), WrongKind, "update"),
                ((("n", S), ("x", N)), ALL, WrongKind, "update"), ((("n", N), ("x", N)), ALL, UnknownName, "x"),
                ((("n", S),), ("column", "y"), WrongKind, "update")):
            self.refuse(session, (("update", "t", assignments, condition),), error, value)
        self.refuse(session, (("update", "z", (("x", N),), ALL),), UnknownName, "z")
        self.refuse(session, (("update", "u", (("k", N),), ALL),), UnknownName, "n")
        self.refuse(session, (("update", "u", (("k", ("cell", "a")),), ALL),), WrongKind, "update")


class ViewTest(SessionTest):
    two = chart_of(view_of(POINT, name="a", size=(20, 20)), view_of(POINT, name="b"), tables=TABLES)

    def test_resize(self):
        session = self.start(self.two)
        session.change((("resize", "b", 400, 4),))
        self.assertEqual(session.spec, chart_of(view_of(POINT, name="a"), view_of(POINT, name="b", size=(400, 4)),
                                                tables=TABLES))
        self.assertEqual(session.scene, draw(session.spec, DATA))

    def test_domain(self):
        session = self.start(self.two)
        session.change((("domain", "a", "x", ("fit",)), ("domain", "b", "y", ("from", (1, 1), (2, 1))),
                        ("domain", "a", "color", ("of", ("k",)))))
        first = view_of(POINT, name="a", x=linear_scale("fit"), color=("plain", ("of", ("k",)), None))
        second = view_of(POINT, name="b", y=linear_scale("from", (1, 1), (2, 1)))
        self.assertEqual(session.spec, chart_of(first, second, tables=TABLES))

    def test_only_the_domain_is_replaced(self):
        axis = ("title", True, PLAIN)
        x = ("linear", ("fit",), True, True, 7, axis)
        y = ("band", ("fit",), True, True, 7, axis)
        layer = layer_of("point", ("x", N), ("y", S), ("color", S))
        session = self.start(chart_of(view_of(layer, x=x, y=y, color=("dark", ("fit",), "Colors")), tables=TABLES))
        session.change((("domain", "v", "x", ("zero",)), ("domain", "v", "y", ("of", ("b",))),
                        ("domain", "v", "color", ("of", ("a", "c")))))
        self.assertEqual(session.spec[2][0][3:6], (
            ("linear", ("zero",), True, True, 7, axis), ("band", ("of", ("b",)), True, True, 7, axis),
            ("dark", ("of", ("a", "c")), "Colors")))

    def test_an_unknown_view(self):
        session = self.start(self.two)
        self.refuse(session, (("resize", "t", 4, 4),), UnknownName, "t")
        self.refuse(session, (("domain", "c", "x", ("fit",)),), UnknownName, "c")

    def test_the_first_view_with_the_name(self):
        session = self.start()
        twins = chart_of(view_of(name="a"), view_of(name="a", size=(30, 30)), tables=TABLES)
        fixed = chart_of(view_of(name="a", size=(7, 8)), view_of(name="a", size=(30, 30)), tables=TABLES)
        # The specification with two views of one name may stand between the edits, but not behind them.
        self.refuse(session, (("specification", twins),), DuplicateName, "a")
        self.refuse(session, (("specification", twins), ("resize", "a", 7, 8)), DuplicateName, "a")
        session.change((("specification", twins), ("resize", "a", 7, 8), ("specification", SPEC)))
        self.assertEqual(session.spec, SPEC)
        with self.assertRaises(DuplicateName):
            check_spec(fixed)

    def test_errors_after_all_edits(self):
        session = self.start()
        wrong = chart_of(view_of(layer_of("point", ("x", N))), tables=TABLES)
        self.refuse(session, (("specification", wrong),), ChannelNeeded, "y")
        session.change((("specification", wrong), ("insert", "t", (row(1, 1),)), ("specification", SPEC)))
        self.assertEqual(len(session.data[0]), 4)
        # An error of a later edit comes before those of the specification.
        self.refuse(session, (("specification", wrong), ("delete", "t", N)), WrongKind, "delete")
        self.refuse(session, (("specification", wrong), ("insert", "t", (row(1, 1),) * 40)), TooManyRows, "t")

    def test_domains_with_errors(self):
        layer = layer_of("rule", ("x", S))
        session = self.start(chart_of(view_of(layer, size=(9, 9), x=band_scale("fit")), tables=TABLES))
        self.refuse(session, (("domain", "v", "x", ("of", whole(1, 2))),), WrongKind, "x")
        self.refuse(session, (("domain", "v", "x", ("of", tuple("abcdefgh"))), ("resize", "v", 7, 9)), TooManyCategories, 8)
        session.change((("domain", "v", "x", ("of", tuple("abcdefgh"))),))
        self.refuse(session, (("resize", "v", 7, 9),), TooManyCategories, 8)

    def test_too_many_categories_in_the_scene(self):
        layer = layer_of("rule", ("x", S))
        session = self.start(chart_of(view_of(layer, size=(4, 4), x=band_scale("fit")), tables=TABLES))
        session.change((("insert", "t", (row(1, 1, "d"),)),))
        more = ("insert", "t", (row(1, 1, "e"), row(1, 1, "f")))
        self.refuse(session, (more,), TooManyCategories, 6)
        self.refuse(session, (more, ("domain", "v", "color", ("fit",)), ("resize", "v", 5, 4)), TooManyCategories, 6)
        session.change((more, ("resize", "v", 6, 4)))
        self.assertEqual(session.next_numbers, (11, 1))
        # The errors of the specification come before those of the scene.
        twins = chart_of(session.spec[2][0], session.spec[2][0], tables=TABLES)
        self.refuse(session, (("resize", "v", 4, 4), ("specification", twins)), DuplicateName, "v")

    def test_another_specification(self):
        session = self.start()
        other = chart_of(view_of(layer_of("rule", ("x", N)), name="w"), tables=TABLES, title="Other")
        session.change((("specification", other),))
        self.assertEqual(state_of(session), (other, DATA, (8, 1), draw(other, DATA)))
        session.change((("resize", "w", 9, 9),))
        self.refuse(session, (("resize", "v", 9, 9),), UnknownName, "v")


class ChangeTest(SessionTest):
    def test_several_edits_of_one_table(self):
        session = self.start()
        edits = (("insert", "t", (row(0, 0, "d"),)), ("update", "t", (("n", ("+", N, ("cell", (1, 1)))),), ALL),
                 ("delete", "t", ("=", N, ("cell", (2, 1)))), ("insert", "t", (row(9, 9),)))
        session.change(edits)
        self.assertEqual(session.data[0], ((3, row(5, 5, "b")), (7, row(7, 7, "c")), (8, row(1, 0, "d")), (9, row(9, 9))))
        self.assertEqual((list(session), len(session)), ([edits], 1))

    def test_no_edits(self):
        session = self.start()
        session.change(())
        self.assertEqual((list(session), len(session), session.can_undo), ([()], 1, True))
        self.assertEqual(state_of(session), (SPEC, DATA, (8, 1), draw(SPEC, DATA)))
        self.assertEqual(session.undo(), ())
        self.assertFalse(session.can_undo)

    def test_an_edit_that_fails_after_others_have_been_carried_out(self):
        session = self.start()
        session.change((("delete", "t", ("=", N, ("cell", (1, 1)))),))
        session.undo()
        self.refuse(session, (("insert", "t", (row(1, 1),)), ("resize", "v", 9, 9), ("delete", "t", ALL),
                              ("specification", chart_of(view_of(name="w"), tables=TABLES)), ("resize", "v", 4, 4)),
                    UnknownName, "v")
        self.assertTrue(session.can_redo)
        session.redo()
        self.assertEqual(session.next_numbers, (8, 1))

    def test_the_first_edit_with_an_error(self):
        self.refuse(self.start(), (("delete", "t", N), ("insert", "z", ())), WrongKind, "delete")
        self.refuse(self.start(), (("insert", "z", ()), ("delete", "t", N)), UnknownName, "z")

    def test_arguments_stay_as_they_are(self):
        arguments = (SPEC, DATA, (("insert", "t", (row(0, 0),)), ("update", "t", (("n", M),), ALL), ("delete", "t", ALL),
                                  ("resize", "v", 9, 9), ("domain", "v", "x", ("fit",))))
        before = copy.deepcopy(arguments)
        session = Session(*arguments[:2])
        session.change(arguments[2])
        session.undo()
        session.preview(arguments[2])
        self.assertEqual(arguments, before)


class UndoTest(SessionTest):
    def insert(self, number):
        return (("insert", "t", (row(number, number),)),)

    def test_undoing_and_redoing(self):
        session = self.start()
        states = [state_of(session)]
        for number in range(3):
            session.change(self.insert(number))
            states.append(state_of(session))
        for number in (2, 1, 0):
            self.assertTrue(session.can_undo)
            self.assertEqual(session.undo(), self.insert(number))
            self.assertEqual(state_of(session), states[number])
            self.assertEqual(list(session), [self.insert(other) for other in range(number)])
        self.assertFalse(session.can_undo)
        for number in range(3):
            self.assertTrue(session.can_redo)
            self.assertEqual(session.redo(), self.insert(number))
            self.assertEqual(state_of(session), states[number + 1])
            self.assertEqual(len(session), number + 1)
        self.assertFalse(session.can_redo)

    def test_the_numbers_of_the_next_rows(self):
        session = self.start()
        session.change((("insert", "t", (row(1, 1),)), ("delete", "t", ALL)))
        self.assertEqual((session.data[0], session.next_numbers), ((), (9, 1)))
        session.undo()
        self.assertEqual(session.next_numbers, (8, 1))
        session.redo()
        self.assertEqual(session.next_numbers, (9, 1))

    def test_nothing_to_undo_or_redo(self):
        session = self.start()
        for attempt, error in ((session.undo, NothingToUndo), (session.redo, NothingToRedo)):
            before = history_of(session)
            with self.assertRaises(error) as caught:
                attempt()
            self.assertEqual(vars(caught.exception), {})
            self.assertEqual(history_of(session), before)
        session.change(self.insert(1))
        self.assertRaises(NothingToRedo, session.redo)
        session.undo()
        self.assertRaises(NothingToUndo, session.undo)
        session.redo()
        self.assertRaises(NothingToRedo, session.redo)

    def test_a_change_ends_the_possibility_to_redo(self):
        for edits in (self.insert(5), (), (("update", "t", (), ALL),), (("delete", "t", ("cell", False)),)):
            session = self.start()
            session.change(self.insert(1))
            session.change(self.insert(2))
            session.undo()
            session.undo()
            session.change(edits)
            self.assertEqual((session.can_redo, list(session)), (False, [edits]))
            self.assertRaises(NothingToRedo, session.redo)

    def test_a_refused_change_and_a_preview_do_not(self):
        session = self.start()
        session.change(self.insert(1))
        session.undo()
        self.refuse(session, (("insert", "z", ()),), UnknownName, "z")
        session.preview(self.insert(2))
        session.render()
        session.attach()
        self.assertTrue(session.can_redo)
        self.assertEqual(session.redo(), self.insert(1))

    def test_more_changes_than_can_be_undone(self):
        for most in (1, 2, 20):
            session = self.start(most=most)
            for number in range(25):
                session.change((("update", "t", (("n", ("cell", (number, 1))),), ALL),))
                self.assertEqual(len(session), min(number + 1, most))
            self.assertEqual([edits[0][2][0][1][1] for edits in session], list(whole(*range(25 - most, 25))))
            for _ in range(most):
                session.undo()
            self.assertRaises(NothingToUndo, session.undo)
            self.assertEqual(session.data[0][0][1][0], (24 - most, 1))
            for _ in range(most):
                session.redo()
            self.assertEqual((len(session), session.data[0][0][1][0], session.can_redo), (most, (24, 1), False))

    def test_twenty_changes_if_nothing_is_told(self):
        session = self.start()
        for _ in range(21):
            session.change(())
        self.assertEqual(len(session), 20)

    def test_iterating_twice(self):
        session = self.start()
        session.change(self.insert(1))
        session.change(self.insert(2))
        self.assertEqual(list(session), list(session))
        self.assertEqual([edits for edits in session], [self.insert(1), self.insert(2)])


class ViewerTest(SessionTest):
    def test_the_first_viewer(self):
        session = self.start()
        self.assertEqual(session.seen(0), EMPTY)
        patch = session.render()
        self.assertEqual(patch, diff(EMPTY, session.scene))
        self.assertEqual(session.seen(0), session.scene)
        self.assertEqual(session.render(), (None, (), (), None, ()))
        self.assertEqual(session.render(0), (None, (), (), None, ()))

    def test_several_viewers(self):
        session = self.start()
        self.assertEqual([session.attach(), session.attach()], [1, 2])
        first = session.scene
        session.render(1)
        session.change((("delete", "t", ("=", N, ("cell", (1, 1)))),))
        self.assertEqual([session.seen(viewer) for viewer in range(3)], [EMPTY, first, EMPTY])
        self.assertEqual(session.render(1), diff(first, session.scene))
        self.assertEqual([session.seen(viewer) for viewer in range(3)], [EMPTY, session.scene, EMPTY])
        session.undo()
        self.assertEqual(session.render(viewer=2), diff(EMPTY, first))
        self.assertEqual(session.attach(), 3)
        self.assertEqual(session.seen(3), EMPTY)
        session.redo()
        self.assertEqual([session.seen(viewer) for viewer in range(4)], [EMPTY, session.scene, first, EMPTY])
        session.render()
        self.assertEqual([session.seen(viewer) for viewer in range(4)], [session.scene, session.scene, first, EMPTY])

    def test_many_viewers(self):
        session = self.start()
        self.assertEqual([session.attach() for _ in range(100)], list(range(1, 101)))
        session.render(100)
        self.assertEqual([session.seen(viewer) == EMPTY for viewer in (0, 99, 100)], [True, True, False])


class PreviewTest(SessionTest):
    edits = (("delete", "t", ("=", N, ("cell", (1, 1)))), ("resize", "v", 30, 30))

    def test_it_is_what_rendering_would_return(self):
        session = self.start()
        session.attach()
        session.render(1)
        expected = [session.preview(self.edits), session.preview(self.edits, viewer=1)]
        self.assertNotEqual(*expected)
        self.assertEqual(session.preview(self.edits, viewer=0), expected[0])
        session.change(self.edits)
        self.assertEqual([session.render(0), session.render(1)], expected)

    def test_it_leaves_the_session_as_it_was(self):
        session = self.start()
        session.change((("insert", "t", (row(1, 1),)),))
        session.change(())
        session.undo()
        session.render()
        before, seen = history_of(session), session.seen(0)
        session.preview(self.edits)
        self.assertEqual((history_of(session), session.seen(0)), (before, seen))
        self.assertEqual(session.redo(), ())

    def test_errors(self):
        session = self.start()
        with self.assertRaises(UnknownName) as caught:
            session.preview((("insert", "z", ()),))
        self.assertEqual(caught.exception.name, "z")
        self.assertEqual(history_of(session), history_of(self.start()))


class RandomTest(SessionTest):
    def test_random_sessions(self):
        """Viewers follow a session by their patches alone, and undoing and redoing find all earlier states."""
        random = Random(340)
        for _ in range(40):
            spec, data = some_chart(random)
            session, past, future = Session(spec, data, most=3), [], []
            scenes = [EMPTY]
            for _ in range(25):
                act = random.randrange(6)
                if act == 0 and past:
                    future.append(state_of(session))
                    session.undo()
                    self.assertEqual(state_of(session), past.pop())
                elif act == 1 and future:
                    past.append(state_of(session))
                    session.redo()
                    self.assertEqual(state_of(session), future.pop())
                elif act == 2 and len(scenes) < 4:
                    self.assertEqual(session.attach(), len(scenes))
                    scenes.append(EMPTY)
                elif act == 3:
                    viewer = random.randrange(len(scenes))
                    patch = session.render(viewer)
                    self.assertIsNone(misfit(scenes[viewer], patch))
                    scenes[viewer] = patched(scenes[viewer], patch)
                    self.assertEqual(scenes[viewer], session.scene)
                else:
                    before = state_of(session)
                    try:
                        session.change(tuple(some_edit(random, session.spec) for _ in range(random.randrange(4))))
                    except ChartError:
                        self.assertEqual(state_of(session), before)
                    else:
                        past, future = (past + [before])[-3:], []
                self.assertEqual((len(session), session.can_redo), (len(past), bool(future)))
                self.assertEqual([session.seen(viewer) for viewer in range(len(scenes))], scenes)
                self.assertEqual(session.scene, draw(session.spec, session.data))


def some_edit(random, spec):
    """An edit of a random chart, which may have errors."""
    name, columns = random.choice(CHART_TABLES)
    view = random.choice(spec[2])
    condition = random.choice((("missing", ("column", "a")), ("<", ("column", "d"), ("cell", (2, 1))),
                               ("=", ("column", "k"), ("cell", "a")), ("column", "c"), ("column", "v")))
    return random.choice((
        ("insert", name, tuple(tuple(some_cell(random, kind) for _, kind in columns) for _ in range(random.randrange(3)))),
        ("delete", name, condition),
        ("update", name, (("a", ("+", ("column", "d"), ("column", "a"))),), condition),
        ("update", name, (("k", ("cell", "b")), ("v", ("minus", ("column", "v")))), ("cell", True)),
        ("resize", view[0], random.choice((4, 20, 33)), random.choice((4, 20, 33))),
        ("domain", view[0], random.choice(("x", "y", "color")), ("fit",)),
        ("specification", spec),
    ))


if __name__ == "__main__":
    unittest.main()
