"""Points 22 and 23 of the document: a darkroom, and trials in it."""

import random
import unittest

from maskedprints.errors import InvalidDeed, InvalidName, InvalidOperation, InvalidSteps, PrintError, UnknownKept
from maskedprints.negatives import Negative, lights, printed
from maskedprints.rooms import Darkroom, Trial
from tests.checking import Checking
from tests.slow_room import SlowRoom, told

PAIR = Negative(2, 1, "01")
SHORT = Negative(3, 1, "012")
STEPS = (10, 40)
ONCE = ("expose", 1, ())
FLIP = ("flip",)
FRESH = ("fresh",)
UNDO = ("undo",)
REDO = ("redo",)
KEEP = ("keep_as", "a")
FETCH = ("fetch", "a")
WRONG_NUMBERS = [0, 100, -1, True, False, None, "1", (1,), ()]
WRONG_MASKS = [(1, 0), (0, 2, 1), (1, 1), (3,), (0, 3), (-1,), (True,), (0, True), (False, 1), ("1",), ((1,),), [0], 0]
WRONG_NAMES = ["", "abcdefghi", "A", "aB", "a1", "1", "a b", " a", "a ", "a\n", "a_b", "a-b", "\u00e4", "\u0430", "a.",
               None, 1, True, ("a",), ()]
RIGHT_NAMES = ["a", "z", "ab", "abcdefgh", "zzzzzzzz", "expose", "undo"]
# What no item of a list of operations can be.
NO_OPERATIONS = [
    (), ("",), ("exposed", 1, ()), ("Expose", 1, ()), ("expose",), ("expose", 1), ("expose", 1, (), 1), ("draw", 1),
    ("draw",), ("draw", 1, 1, 1), ("flip", 1), ("flip", ()), ("fresh", 1), ("fresh", "a"), ("keep_as",),
    ("keep_as", "a", "b"), ("keep",), ("keep", "a"), ("fetch",), ("fetch", "a", "b"), ("undo", 1), ("redo", 1),
    ("undo", ()), ("hold",), ("history",), ("print_now",), ("apply_all", ()), ("tried_out", (), True), ("replay",),
    ("show",), (1,), (None,), (True,), ((),), (("flip",),), (["flip"],), ({},), ["flip"], ["expose", 1, ()], "flip", "",
    "f", None, 0, 1, True, {"flip": 1}, {"flip"}, [], b"flip",
]
# Operations that raise an error when they are executed in a darkroom for three cells where nothing is kept.
FAILING = [
    (InvalidDeed, ("expose", 0, ())), (InvalidDeed, ("expose", 1, (3,))), (InvalidDeed, ("expose", 1, [0])),
    (InvalidDeed, ("draw", 0, 1)), (InvalidDeed, ("draw", 1, 100)), (InvalidName, ("keep_as", "")),
    (InvalidName, ("keep_as", "A")), (UnknownKept, ("fetch", "no")), (UnknownKept, ("fetch", "")),
]


def new_room():
    return Darkroom(SHORT, STEPS)


def busy_room():
    """A darkroom with something of each kind, two operations of which are undone."""
    room = new_room()
    room.apply_all([ONCE, KEEP, FLIP, FRESH, ("draw", 2, 1), ("keep_as", "b"), ("expose", 3, (0,)), FLIP, UNDO, UNDO])
    return room


def full(room):
    """All that a darkroom tells, with all that it would tell behind each undo and each redo that it has."""
    found = [told(room)]
    undone = redone = 0
    while room.undo():
        undone += 1
        found.append(told(room))
    for again in range(undone):
        room.redo()
    while room.redo():
        redone += 1
        found.append(told(room))
    for again in range(redone):
        room.undo()
    return found


class RoomCase(Checking):

    def assert_fails(self, error, room, call, *given):
        """Assert that a call raises an error and changes nothing."""
        before = full(room)
        with self.assertRaises(error, msg=given):
            call(*given)
        self.assertEqual(full(room), before, given)

    def assert_index(self, index, room, call, *given):
        """Assert that a call raises InvalidOperation with an index and changes nothing."""
        before = full(room)
        with self.assertRaises(InvalidOperation) as caught:
            call(*given)
        self.assertEqual(caught.exception.index, index, given)
        self.assertEqual(full(room), before, given)


class ExampleTest(RoomCase):

    def test_the_first_example(self):
        room = Darkroom(PAIR, (10, 20))
        found = room.apply_all([("expose", 1, ()), ("flip",), ("expose", 1, (1,)), ("fresh",)])
        marks = [found, room.print_now, room.prints_made, room.is_over, room.undo(), room.print_now, room.lights_now]
        self.assertEqual(marks, [[1, True, 1, "20"], "00", ["20"], True, True, "20", (24, 8)])

    def test_the_second_example(self):
        with self.assertRaises(InvalidDeed):
            Darkroom(PAIR, (10,)).draw(0, 1)


class NewRoomTest(RoomCase):

    def test_all_properties(self):
        self.assertEqual(told(new_room()), ["000", (0, 0, 0), False, [], [], []])
        self.assertEqual(told(Darkroom(Negative(3, 3, "4" * 9), (1,))), ["0" * 9, (0,) * 9, False, [], [], []])
        self.assertIs(new_room().is_over, False)
        self.assertIsInstance(new_room().lights_now, tuple)

    def test_nothing_to_undo(self):
        room = new_room()
        self.assertIs(room.undo(), False)
        self.assertIs(room.redo(), False)
        self.assertEqual(told(room), told(new_room()))

    def test_wrong_steps(self):
        self.assert_steps(lambda steps: Darkroom(SHORT, steps))

    def test_the_properties_cannot_be_assigned(self):
        for name in ("print_now", "lights_now", "is_over", "prints_made", "kept_under", "history"):
            with self.assertRaises(AttributeError):
                setattr(new_room(), name, None)


class DeedsTest(RoomCase):

    def test_expose_returns_how_many_tones_changed(self):
        room = new_room()
        self.assertEqual(room.expose(1, ()), 1)
        self.assertEqual((room.print_now, room.lights_now), ("100", (16, 8, 4)))
        self.assertEqual(room.expose(2, (1,)), 2)
        self.assertEqual((room.print_now, room.lights_now), ("201", (48, 8, 12)))
        self.assertEqual(room.expose(99, (1, 2)), 0)
        self.assertEqual(room.expose(1, (0, 1, 2)), 0)
        self.assertEqual(room.lights_now, (48 + 99 * 16, 8, 12))
        self.assertEqual(room.history, [ONCE, ("expose", 2, (1,)), ("expose", 99, (1, 2)), ("expose", 1, (0, 1, 2))])

    def test_draw_returns_how_many_tones_changed(self):
        room = new_room()
        self.assertEqual(room.draw(3, 1), 2)
        self.assertEqual((room.print_now, room.lights_now), ("210", (48, 16, 4)))
        self.assertEqual(room.draw(99, 99), 0)
        self.assertEqual(room.lights_now, (48 + 99 * 16, 16, 4))
        self.assertEqual(room.draw(99, 1), 2)
        self.assertEqual(room.history, [("draw", 3, 1), ("draw", 99, 99), ("draw", 99, 1)])

    def test_flip_returns_whether_it_is_over(self):
        room = new_room()
        self.assertIs(room.flip(), True)
        self.assertIs(room.is_over, True)
        room.expose(1, ())
        self.assertEqual(room.lights_now, (4, 8, 16))
        self.assertIs(room.flip(), False)
        self.assertIs(room.is_over, False)
        room.expose(1, ())
        self.assertEqual(room.lights_now, (20, 16, 20))
        self.assertEqual(room.history, [FLIP, ONCE, FLIP, ONCE])

    def test_several_tones_at_once(self):
        room = Darkroom(Negative(2, 2, "0011"), (1, 2, 3, 4, 5))
        self.assertEqual(room.expose(1, (1, 2)), 2)
        self.assertEqual(room.print_now, "5005")

    def test_they_do_what_recipes_do(self):
        negative = Negative(4, 2, "01234012")
        recipe = (("draw", 9, 2), FLIP, ("expose", 3, (0, 5)), ("draw", 4, 1), FLIP, ("expose", 99, (7,)))
        room = Darkroom(negative, STEPS)
        for many in range(1, len(recipe) + 1):
            room.apply_all([recipe[many - 1]])
            self.assertEqual(room.lights_now, lights(negative, recipe[:many]))
            self.assertEqual(room.print_now, printed(negative, STEPS, recipe[:many]))

    def test_more_deeds_than_a_recipe_has(self):
        room = new_room()
        for many in range(1, 100):
            room.expose(1, (1, 2))
            self.assertEqual(room.lights_now, (16 * many, 0, 0))
        self.assertEqual(len(room.history), 99)

    def test_what_is_no_deed(self):
        for room in (new_room(), busy_room()):
            for value in WRONG_NUMBERS:
                self.assert_fails(InvalidDeed, room, room.expose, value, ())
                self.assert_fails(InvalidDeed, room, room.draw, value, 1)
                self.assert_fails(InvalidDeed, room, room.draw, 1, value)
            for covered in WRONG_MASKS:
                self.assert_fails(InvalidDeed, room, room.expose, 1, covered)


class FreshTest(RoomCase):

    def test_fresh_returns_the_print(self):
        room = new_room()
        room.expose(3, (1,))
        self.assertEqual(room.fresh(), "201")
        self.assertEqual(told(room), ["000", (0, 0, 0), False, ["201"], [], [("expose", 3, (1,)), FRESH]])
        self.assertEqual(room.fresh(), "000")
        room.expose(1, ())
        self.assertEqual(room.fresh(), "100")
        self.assertEqual(room.prints_made, ["201", "000", "100"])

    def test_the_negative_stays_turned_over(self):
        room = new_room()
        room.flip()
        room.fresh()
        self.assertIs(room.is_over, True)
        room.expose(1, ())
        self.assertEqual(room.lights_now, (4, 8, 16))

    def test_what_is_kept_stays(self):
        room = new_room()
        room.keep_as("a")
        room.fresh()
        self.assertEqual(room.kept_under, ["a"])


class KeepTest(RoomCase):

    def test_keep_as_returns_whether_something_was_kept(self):
        room = new_room()
        self.assertIs(room.keep_as("a"), False)
        self.assertIs(room.keep_as("b"), False)
        self.assertIs(room.keep_as("a"), True)
        self.assertEqual(room.kept_under, ["a", "b"])
        room.undo()
        self.assertIs(room.keep_as("a"), True)
        room.apply_all([UNDO, UNDO, UNDO])
        self.assertIs(room.keep_as("a"), False)

    def test_names(self):
        for name in RIGHT_NAMES:
            room = new_room()
            self.assertIs(room.keep_as(name), False)
            self.assertEqual((room.kept_under, room.history), ([name], [("keep_as", name)]))
        for room in (new_room(), busy_room()):
            for name in WRONG_NAMES:
                self.assert_fails(InvalidName, room, room.keep_as, name)

    def test_the_names_ascend(self):
        room = new_room()
        for name in ("b", "zz", "ab", "a", "z"):
            room.keep_as(name)
        self.assertEqual(room.kept_under, ["a", "ab", "b", "z", "zz"])

    def test_keeping_changes_nothing_else(self):
        room = new_room()
        room.apply_all([ONCE, FLIP, FRESH, ONCE])
        before = told(room)
        room.keep_as("a")
        self.assertEqual(told(room), before[:4] + [["a"], before[5] + [KEEP]])

    def test_fetch_returns_the_print_that_lies_there_then(self):
        room = new_room()
        room.apply_all([ONCE, KEEP, ("expose", 9, ())])
        self.assertEqual(room.print_now, "222")
        self.assertEqual(room.fetch("a"), "100")
        self.assertEqual((room.print_now, room.lights_now), ("100", (16, 8, 4)))
        self.assertEqual(room.history, [ONCE, KEEP, ("expose", 9, ()), FETCH])

    def test_fetch_brings_the_prints_and_the_flip_back(self):
        room = new_room()
        room.apply_all([ONCE, FRESH, FLIP, KEEP, FLIP, ("expose", 9, ()), FRESH, FRESH])
        self.assertEqual((room.prints_made, room.is_over), (["100", "221", "000"], False))
        self.assertEqual(room.fetch("a"), "000")
        self.assertEqual((room.prints_made, room.is_over), (["100"], True))
        room.expose(1, ())
        self.assertEqual(room.lights_now, (4, 8, 16))

    def test_what_is_kept_stays_and_may_be_fetched_again(self):
        room = new_room()
        room.apply_all([ONCE, KEEP, ONCE, ("keep_as", "b"), ONCE])
        self.assertEqual(room.fetch("a"), "100")
        self.assertEqual(room.kept_under, ["a", "b"])
        self.assertEqual(room.fetch("b"), "110")
        room.expose(1, ())
        self.assertEqual(room.fetch("b"), "110")
        self.assertEqual(room.fetch("a"), "100")

    def test_the_last_one_of_two_under_a_name_is_fetched(self):
        room = new_room()
        room.apply_all([KEEP, ONCE, KEEP, ONCE])
        self.assertEqual(room.fetch("a"), "100")
        room.apply_all([UNDO, UNDO, UNDO])
        self.assertEqual(room.kept_under, ["a"])
        self.assertEqual(room.fetch("a"), "000")

    def test_fetch_can_be_undone(self):
        room = new_room()
        room.apply_all([KEEP, ONCE, FLIP, FRESH])
        before = told(room)
        room.fetch("a")
        self.assertIs(room.undo(), True)
        self.assertEqual(told(room), before)

    def test_names_under_which_nothing_is_kept(self):
        for room in (new_room(), busy_room()):
            for name in ["no", "ab", "aa"] + WRONG_NAMES:
                self.assert_fails(UnknownKept, room, room.fetch, name)

    def test_names_whose_keeping_was_undone(self):
        room = new_room()
        room.keep_as("a")
        room.undo()
        self.assert_fails(UnknownKept, room, room.fetch, "a")
        room.redo()
        self.assertEqual(room.fetch("a"), "000")


class ListsTest(RoomCase):

    def test_lists_that_the_caller_modifies(self):
        room = busy_room()
        before = full(room)
        for name in ("prints_made", "kept_under", "history"):
            self.assertIsNot(getattr(room, name), getattr(room, name))
            getattr(room, name).append("x")
            getattr(room, name).clear()
        self.assertEqual(full(room), before)

    def test_results_that_the_caller_modifies(self):
        room = new_room()
        room.apply_all([ONCE, FLIP]).clear()
        room.tried_out([ONCE, FLIP], True).clear()
        self.assertEqual(room.history, [ONCE, FLIP, ONCE, FLIP])

    def test_operations_that_the_caller_modifies(self):
        operations = [ONCE, FLIP]
        room = new_room()
        room.apply_all(operations)
        self.assertEqual(operations, [ONCE, FLIP])
        operations.append(FRESH)
        operations[0] = FLIP
        self.assertEqual(room.history, [ONCE, FLIP])

    def test_two_darkrooms_have_nothing_in_common(self):
        one, other = new_room(), new_room()
        one.apply_all([ONCE, KEEP, FRESH, FLIP])
        self.assertEqual(told(other), told(new_room()))


class UndoTest(RoomCase):

    def test_each_operation(self):
        room = new_room()
        room.apply_all([ONCE, KEEP, FRESH, FLIP, ONCE])
        for operation in [ONCE, ("draw", 5, 1), FLIP, FRESH, KEEP, ("keep_as", "b"), FETCH]:
            before = told(room)
            room.apply_all([operation])
            behind = told(room)
            self.assertEqual(behind[5], before[5] + [operation])
            self.assertIs(room.undo(), True)
            self.assertEqual(told(room), before, operation)
            self.assertIs(room.redo(), True)
            self.assertEqual(told(room), behind, operation)
            self.assertIs(room.redo(), False)

    def test_all_the_way_back_and_forth(self):
        operations = [ONCE, KEEP, FLIP, ("draw", 3, 2), FRESH, ONCE, FETCH, FRESH]
        room = new_room()
        stages = [told(room)]
        for operation in operations:
            room.apply_all([operation])
            stages.append(told(room))
        for stage in stages[-2::-1]:
            self.assertIs(room.undo(), True)
            self.assertEqual(told(room), stage)
        self.assertIs(room.undo(), False)
        for stage in stages[1:]:
            self.assertIs(room.redo(), True)
            self.assertEqual(told(room), stage)
        self.assertIs(room.redo(), False)
        self.assertEqual(told(room), stages[-1])

    def test_redo_behind_a_new_operation(self):
        for operation in [ONCE, ("draw", 5, 1), FLIP, FRESH, KEEP, FETCH]:
            room = new_room()
            room.apply_all([KEEP, FLIP, ONCE, UNDO, UNDO, operation])
            self.assertIs(room.redo(), False)
            self.assertEqual(room.history, [KEEP, operation])

    def test_redo_behind_an_operation_that_changes_no_cell(self):
        room = new_room()
        room.apply_all([FLIP, UNDO, ("expose", 1, (0, 1, 2))])
        self.assertIs(room.redo(), False)

    def test_redo_behind_an_operation_that_raised_an_error(self):
        for error, operation in FAILING:
            room = new_room()
            room.apply_all([FLIP, ONCE, UNDO, UNDO])
            with self.assertRaises(error):
                getattr(room, operation[0])(*operation[1:])
            self.assertEqual([room.redo(), room.redo(), room.redo()], [True, True, False])
            self.assertEqual(room.history, [FLIP, ONCE])

    def test_redo_behind_undo_that_had_nothing_to_undo(self):
        room = new_room()
        room.apply_all([FLIP, UNDO])
        self.assertIs(room.undo(), False)
        self.assertIs(room.redo(), True)
        self.assertIs(room.is_over, True)

    def test_undo_behind_redo(self):
        room = new_room()
        self.assertEqual(room.apply_all([ONCE, FLIP, UNDO, UNDO, REDO, UNDO, REDO, REDO, REDO]),
                         [1, True, True, True, True, True, True, True, False])
        self.assertEqual(room.history, [ONCE, FLIP])

    def test_they_are_not_in_the_history(self):
        room = new_room()
        room.apply_all([ONCE, UNDO, REDO, UNDO, UNDO, FLIP])
        self.assertEqual(room.history, [FLIP])


class ApplyAllTest(RoomCase):

    def test_results(self):
        room = new_room()
        operations = [("expose", 3, (1,)), FLIP, KEEP, KEEP, FRESH, ("draw", 9, 1), FETCH, UNDO, UNDO, REDO, REDO, REDO]
        found = room.apply_all(operations)
        self.assertEqual(found, [2, True, False, True, "201", 3, "201", True, True, True, True, False])
        self.assertEqual(room.history, operations[:7])

    def test_no_operations(self):
        room = busy_room()
        before = full(room)
        self.assertEqual(room.apply_all([]), [])
        self.assertEqual(full(room), before)
        self.assertIs(room.redo(), True)

    def test_each_one_can_be_undone_alone(self):
        room = new_room()
        room.apply_all([ONCE, FLIP, FRESH])
        self.assertIs(room.undo(), True)
        self.assertEqual(room.history, [ONCE, FLIP])

    def test_what_is_no_operation(self):
        for room in (new_room(), busy_room()):
            for operation in NO_OPERATIONS:
                self.assert_index(0, room, room.apply_all, [operation])
                self.assert_index(2, room, room.apply_all, [ONCE, UNDO, operation, FLIP, operation])

    def test_what_is_no_operation_is_told_first(self):
        room = new_room()
        for error, operation in FAILING:
            self.assert_index(1, room, room.apply_all, [operation, ("flip", 1)])
            self.assert_index(2, room, room.apply_all, [operation, operation, None, ()])

    def test_an_error_in_the_middle(self):
        for room in (new_room(), busy_room()):
            for error, operation in FAILING:
                for ahead in ([], [ONCE], [UNDO], [REDO, UNDO, UNDO], [FLIP, FRESH, ("keep_as", "c"), ("fetch", "c")]):
                    self.assert_fails(error, room, room.apply_all, ahead + [operation, ONCE])

    def test_the_first_error_is_raised(self):
        room = new_room()
        for error, operation in FAILING:
            for other in [each for kind, each in FAILING if kind is not error]:
                self.assert_fails(error, room, room.apply_all, [operation, other])

    def test_a_history_again(self):
        room = busy_room()
        other = new_room()
        other.apply_all(room.history)
        self.assertEqual(told(other), told(room))
        room.apply_all(room.history)
        self.assertEqual(len(room.history), 12)


class ReplayTest(RoomCase):

    def test_a_history(self):
        room = busy_room()
        other = Darkroom.replay(SHORT, STEPS, room.history)
        self.assertIsInstance(other, Darkroom)
        self.assertEqual(told(other), told(room))
        self.assertIs(other.redo(), False)
        self.assertEqual(told(Darkroom.replay(SHORT, STEPS, [])), told(new_room()))

    def test_histories_with_undo_and_redo(self):
        room = Darkroom.replay(SHORT, STEPS, [UNDO, REDO, ONCE, FLIP, UNDO, REDO, UNDO])
        self.assertEqual(room.history, [ONCE])
        self.assertIs(room.redo(), True)
        self.assertEqual(room.history, [ONCE, FLIP])

    def test_errors(self):
        self.assert_steps(lambda steps: Darkroom.replay(SHORT, steps, []))
        for error, operation in FAILING:
            self.assert_errors(error, Darkroom.replay, [(SHORT, STEPS, [ONCE, operation, FLIP])])
        for operation in NO_OPERATIONS:
            with self.assertRaises(InvalidOperation) as caught:
                Darkroom.replay(SHORT, STEPS, [ONCE, operation])
            self.assertEqual(caught.exception.index, 1)

    def test_the_order_of_the_errors(self):
        self.assert_errors(InvalidSteps, Darkroom.replay, [(SHORT, (), [None]), (SHORT, (2, 1), [("draw", 0, 1)])])
        self.assert_errors(InvalidOperation, Darkroom.replay, [(SHORT, STEPS, [("draw", 0, 1), None])])


class TrialTest(RoomCase):

    def test_a_block_without_hold(self):
        room = busy_room()
        before = full(room)
        with Trial(room) as trial:
            self.assertIsInstance(trial, Trial)
            room.apply_all([ONCE, KEEP, FRESH, ("keep_as", "new"), FLIP])
            self.assertEqual(room.kept_under, ["a", "b", "new"])
        self.assertEqual(full(room), before)

    def test_a_block_with_hold(self):
        room, other = busy_room(), busy_room()
        with Trial(room) as trial:
            room.expose(1, ())
            trial.hold()
            room.flip()
        other.apply_all([ONCE, FLIP])
        self.assertEqual(full(room), full(other))

    def test_undo_and_redo_in_a_block(self):
        for words in ([UNDO], [UNDO, UNDO, UNDO], [REDO], [REDO, REDO], [UNDO] * 20, [UNDO, FLIP], [REDO, REDO, FRESH]):
            room = busy_room()
            before = full(room)
            with Trial(room):
                room.apply_all(words)
            self.assertEqual(full(room), before, words)

    def test_an_empty_block(self):
        room = busy_room()
        before = full(room)
        with Trial(room):
            pass
        self.assertEqual(full(room), before)
        with Trial(room) as trial:
            trial.hold()
        self.assertEqual(full(room), before)

    def test_operations_behind_a_block(self):
        room = busy_room()
        with Trial(room):
            room.flip()
        room.redo()
        self.assertEqual(room.history[-1], ("expose", 3, (0,)))
        room.fresh()
        self.assertIs(room.redo(), False)

    def test_blocks_in_blocks(self):
        for outer, inner in [(False, False), (False, True), (True, False), (True, True)]:
            room, other = busy_room(), busy_room()
            with Trial(room) as trial:
                room.expose(1, ())
                with Trial(room) as nested:
                    room.flip()
                    if inner:
                        nested.hold()
                room.fresh()
                if outer:
                    trial.hold()
            if outer:
                other.apply_all([ONCE, FLIP, FRESH] if inner else [ONCE, FRESH])
            self.assertEqual(full(room), full(other), (outer, inner))

    def test_an_inner_block_alone_is_taken_back(self):
        room = busy_room()
        with Trial(room):
            room.expose(1, ())
            before = full(room)
            with Trial(room):
                room.apply_all([UNDO, UNDO, FLIP])
            self.assertEqual(full(room), before)

    def test_a_block_that_ends_by_an_error(self):
        for held in (False, True):
            room, other = busy_room(), busy_room()
            with self.assertRaises(InvalidDeed):
                with Trial(room) as trial:
                    room.flip()
                    if held:
                        trial.hold()
                    room.draw(0, 1)
            if held:
                other.flip()
            self.assertEqual(full(room), full(other), held)

    def test_an_error_of_another_kind_goes_on(self):
        room = busy_room()
        before = full(room)
        with self.assertRaises(KeyError):
            with Trial(room):
                room.flip()
                raise KeyError("x")
        self.assertEqual(full(room), before)

    def test_one_trial_for_two_blocks(self):
        room = new_room()
        trial = Trial(room)
        with trial:
            room.flip()
            trial.hold()
        room.fresh()
        before = full(room)
        with trial:
            room.apply_all([UNDO, ONCE])
        self.assertEqual(full(room), before)
        room.expose(1, ())
        with trial:
            room.flip()
        self.assertEqual(room.history, [FLIP, FRESH, ONCE])

    def test_hold_ahead_of_a_block(self):
        room = new_room()
        trial = Trial(room)
        trial.hold()
        with trial:
            room.flip()
        self.assertEqual(room.history, [])

    def test_a_block_of_another_darkroom(self):
        one, other = new_room(), new_room()
        with Trial(one):
            one.flip()
            other.flip()
        self.assertEqual((one.history, other.history), ([], [FLIP]))


class TriedOutTest(RoomCase):

    def test_results_and_what_is_kept(self):
        operations = [UNDO, ONCE, FLIP, FRESH, KEEP, UNDO]
        for keep in (True, False):
            room, other = busy_room(), busy_room()
            results = busy_room().apply_all(operations)
            self.assertEqual(room.tried_out(operations, keep), results)
            if keep:
                other.apply_all(operations)
            self.assertEqual(full(room), full(other), keep)

    def test_no_operations(self):
        for keep in (True, False):
            room = busy_room()
            self.assertEqual(room.tried_out([], keep), [])
            self.assertEqual(full(room), full(busy_room()))

    def test_errors(self):
        for keep in (True, False):
            for room in (new_room(), busy_room()):
                for error, operation in FAILING:
                    self.assert_fails(error, room, room.tried_out, [ONCE, UNDO, UNDO, operation], keep)
                for operation in NO_OPERATIONS:
                    self.assert_index(1, room, room.tried_out, [ONCE, operation], keep)
                self.assert_index(1, room, room.tried_out, [("draw", 0, 1), None], keep)

    def test_in_a_block(self):
        room = busy_room()
        before = full(room)
        with Trial(room):
            room.tried_out([FLIP], True)
            self.assertEqual(room.history[-1], FLIP)
        self.assertEqual(full(room), before)


class SlowModelTest(RoomCase):

    def test_long_rows_of_operations(self):
        chance = random.Random(22)
        choices = [ONCE, ("expose", 2, (0,)), ("expose", 3, (1, 2)), ("draw", 4, 1), FLIP, FRESH, KEEP,
                   ("keep_as", "b"), FETCH, ("fetch", "b"), ("fetch", "c"), UNDO, UNDO, REDO, REDO]
        for again in range(40):
            figures = "".join(chance.choice("01234") for cell in range(4))
            steps = tuple(sorted(chance.sample(range(1, 60), 3)))
            room, slow = Darkroom(Negative(2, 2, figures), steps), SlowRoom(2, figures, steps)
            for operation in chance.choices(choices, k=30):
                self.assert_step(room, slow, operation)

    def assert_step(self, room, slow, operation):
        """Execute an operation in a darkroom and in the slow one, and compare all that they tell."""
        given = (slow.densities, slow.steps, slow.history, operation)
        try:
            expected = [slow.perform(operation)]
        except PrintError as error:
            self.assertRaises(type(error), room.apply_all, [operation])
            expected = None
        if expected is not None:
            self.assertEqual(room.apply_all([operation]), expected, given)
        self.assertEqual(told(room), slow.told(), given)


if __name__ == "__main__":
    unittest.main()
