"""Points 29 and 30 of the document: scripts."""

import random
import unittest

from maskedprints.errors import ExecutionFailed, InvalidSteps, ScriptError, TooLong
from maskedprints.negatives import Negative
from maskedprints.rooms import Darkroom
from maskedprints.scripts import run_script
from tests.checking import Checking
from tests.slow_room import told
from tests.slow_script import Stop, slow_script

PAIR = Negative(2, 1, "01")
SHORT = Negative(3, 1, "012")
STEPS = (10, 20)
FLIP = ("flip",)
FRESH = ("fresh",)
ONCE = ("expose", 1, ())
# Rows that cannot be by their words.
NO_ROWS = [
    " ", " flip", "flip ", "flip  ", "Flip", "flop", "x", "1", "flip 1", "flip x", "flip flip", "fresh 1",
    "fresh fresh", "show 1", "show show", "end 1", "end x", "expose", "expose ", "expose x", "expose -1", "expose 00",
    "expose 01", "expose 100", "expose 1 ", "expose  1", "expose 1 x", "expose 1 00", "expose 1 100", "expose 1  0",
    "expose 1 0 ", "expose 1 0 x", "draw", "draw 1", "draw 1 ", "draw 1 x", "draw x 1", "draw 1 1 1", "draw 01 1",
    "draw 1 01", "draw 1  1", "draw 1 1 ", "draw 100 1", "draw 1 100", "repeat", "repeat ", "repeat x", "repeat 1 1",
    "repeat 00", "repeat 01", "repeat 100", "repeat -1", "repeat 1 ", "when", "when 0", "when 0 ", "when 0 x",
    "when x 0", "when 0 0 0", "when 00 0", "when 0 00", "when 100 0", "when 0 100", "when 0 -1", "keep_as a",
    "fetch a", "undo", "redo", "print", "repeat \u0661", "draw \u00b2 1", "flip\t", "flip\r", "\tflip", "else",
    "end end",
]


class ScriptCase(Checking):

    def run_rows(self, *rows, negative=SHORT, steps=STEPS):
        return run_script(negative, steps, "\n".join(rows))

    def assert_output(self, output, *rows):
        self.assertEqual(self.run_rows(*rows)[1], output, rows)

    def assert_history(self, history, *rows):
        self.assertEqual(self.run_rows(*rows)[0].history, history, rows)

    def assert_script(self, row, *rows):
        with self.assertRaises(ScriptError, msg=rows) as caught:
            self.run_rows(*rows)
        self.assertEqual(caught.exception.row, row, rows)

    def assert_failed(self, row, *rows):
        with self.assertRaises(ExecutionFailed, msg=rows) as caught:
            self.run_rows(*rows)
        self.assertEqual(caught.exception.row, row, rows)

    def assert_long(self, *rows):
        with self.assertRaises(TooLong, msg=rows):
            self.run_rows(*rows)


class ExampleTest(ScriptCase):

    def test_the_first_example(self):
        lines = ["expose 1", "show", "when 0 1", "fresh", "end", "repeat 2", "draw 1 1", "end", "show"]
        room, output = run_script(Negative(2, 1, "01"), (10, 20), "\n".join(lines))
        self.assertEqual([output, room.prints_made, len(room.history)], [["10", "10", "20"], ["10"], 4])

    def test_the_second_example(self):
        with self.assertRaises(ExecutionFailed) as caught:
            run_script(Negative(2, 1, "01"), (10, 20), "expose 1 2")
        self.assertEqual(caught.exception.row, 0)


class RowsTest(ScriptCase):

    def test_the_empty_text(self):
        found = run_script(SHORT, STEPS, "")
        self.assertIsInstance(found, tuple)
        self.assertIsInstance(found[0], Darkroom)
        self.assertEqual(told(found[0]), told(Darkroom(SHORT, STEPS)))
        self.assertEqual(found[1], [])

    def test_deeds(self):
        self.assert_history([ONCE], "expose 1")
        self.assert_history([("expose", 99, (0, 2))], "expose 99 0 2")
        self.assert_history([("draw", 10, 99)], "draw 10 99")
        self.assert_history([FLIP], "flip")
        room, output = self.run_rows("expose 3 1", "flip", "draw 1 1")
        self.assertEqual((room.lights_now, room.is_over, output), ((52, 0, 12), True, []))

    def test_fresh_writes_the_print_that_it_replaces(self):
        room, output = self.run_rows("expose 1", "fresh", "fresh")
        self.assertEqual((output, room.prints_made), (["100", "000"], ["100", "000"]))
        self.assertEqual(room.history, [ONCE, FRESH, FRESH])

    def test_show_writes_the_print_and_is_no_operation(self):
        room, output = self.run_rows("show", "expose 1", "show", "show")
        self.assertEqual((output, room.prints_made, room.history), (["000", "100", "100"], [], [ONCE]))
        self.assert_history([], "show")

    def test_blocks_are_no_operations(self):
        self.assert_history([], "repeat 3", "end", "when 0 0", "end")

    def test_more_deeds_than_a_recipe_has(self):
        self.assert_history([FLIP] * 60, *["flip"] * 60)

    def test_the_operations_can_be_undone(self):
        room, output = self.run_rows("repeat 2", "expose 1", "end")
        self.assertEqual([room.undo(), room.undo(), room.undo(), room.redo()], [True, True, False, True])
        self.assertIs(self.run_rows("flip")[0].redo(), False)

    def test_the_output_may_be_modified(self):
        self.run_rows("show")[1].clear()
        self.assert_output(["000"], "show")


class BlocksTest(ScriptCase):

    def test_repeat(self):
        self.assert_history([], "repeat 0", "flip", "end")
        self.assert_history([FLIP], "repeat 1", "flip", "end")
        self.assert_history([FLIP, ONCE] * 10 + [FRESH], "repeat 10", "flip", "expose 1", "end", "fresh")
        self.assert_history([FLIP] * 99, "repeat 99", "flip", "end")

    def test_when(self):
        self.assert_history([FLIP], "when 0 0", "flip", "end")
        self.assert_history([], "when 0 1", "flip", "end")
        self.assert_history([ONCE, FLIP], "expose 1", "when 0 1", "flip", "end", "when 0 0", "fresh", "end")
        self.assert_history([ONCE, FLIP], "expose 1", "when 2 0", "flip", "end", "when 1 1", "fresh", "end")
        self.assert_history([FRESH], "when 2 1", "flip", "end", "fresh")

    def test_when_is_asked_once(self):
        self.assert_output(["100", "100"], "when 0 0", "expose 1", "show", "show", "end")

    def test_tones_that_no_cell_has(self):
        for tone in ("3", "5", "6", "9", "10", "99"):
            self.assert_history([], "when 0 " + tone, "flip", "end")

    def test_blocks_in_blocks(self):
        self.assert_history([FLIP, ONCE, ONCE, ONCE] * 2, "repeat 2", "flip", "repeat 3", "expose 1", "end", "end")
        self.assert_history([ONCE, ONCE] + [FLIP] * 9, "repeat 3", "when 0 2", "repeat 9", "flip", "end", "end",
                            "when 0 1", "expose 1", "repeat 0", "end", "end", "when 0 0", "expose 1", "end",
                            "repeat 0", "end", "end")

    def test_four_deep(self):
        self.assert_history([FLIP] * 16, *["repeat 2"] * 4, "flip", *["end"] * 4)
        self.assert_history([FLIP], *["when 0 0"] * 4, "flip", *["end"] * 4)
        self.assert_history([FLIP] * 4, "repeat 2", "when 0 0", "repeat 2", "when 1 0", "flip", *["end"] * 4)

    def test_many_blocks_side_by_side(self):
        self.assert_history([FLIP] * 20, *["repeat 1", "flip", "end"] * 20)

    def test_fresh_in_blocks(self):
        room, output = self.run_rows("repeat 3", "expose 1", "fresh", "end")
        self.assertEqual((output, room.prints_made), (["100"] * 3, ["100"] * 3))
        self.assert_output(["100", "000"], "expose 1", "when 0 1", "fresh", "when 0 0", "show", "end", "end")

    def test_rows_behind_a_block(self):
        self.assert_output(["000", "100"], "repeat 0", "flip", "repeat 2", "flip", "end", "end",
                           "show", "expose 1", "show")


class ScriptErrorTest(ScriptCase):

    def test_rows_that_cannot_be(self):
        for row in NO_ROWS:
            self.assert_script(0, row)
            self.assert_script(0, row, row, "end")
            self.assert_script(2, "flip", "show", row, "fresh")
            self.assert_script(1, "repeat 0", row, "end")

    def test_empty_rows(self):
        self.assert_script(0, "", "flip")
        self.assert_script(0, "", "")
        self.assert_script(1, "flip", "")
        self.assert_script(1, "flip", "", "flip")

    def test_numbers_out_of_their_ranges_are_no_such_errors(self):
        for row in ["expose 0", "expose 1 9", "expose 1 1 0", "expose 1 1 1", "expose 1 99 0 0", "draw 0 0",
                    "draw 1 0"]:
            self.assert_history([], "repeat 0", row, "end")
            self.assert_failed(0, row)
        self.assert_history([], "repeat 0", "when 99 99", "flip", "end", "end")

    def test_many_cells(self):
        self.assert_failed(0, "expose 1" + " 0" * 200)

    def test_ends_too_many(self):
        self.assert_script(0, "end")
        self.assert_script(2, "repeat 1", "end", "end")
        self.assert_script(3, "repeat 1", "flip", "end", "end", "x")

    def test_ends_missing(self):
        self.assert_script(1, "repeat 1")
        self.assert_script(1, "when 0 0")
        self.assert_script(3, "repeat 0", "flip", "flip")
        self.assert_script(4, "repeat 0", "when 0 0", "end", "flip")
        self.assert_script(60, *["flip"] * 59, "repeat 1")

    def test_a_fifth_block(self):
        self.assert_script(4, *["repeat 0"] * 5, *["end"] * 5)
        self.assert_script(4, *["when 0 1"] * 5, "flip", *["end"] * 5)
        self.assert_script(7, *["repeat 0"] * 4, "flip", "end", "repeat 0", "repeat 0", *["end"] * 5)
        self.assert_script(5, *["repeat 0"] * 4, "show", "when 0 0")
        self.assert_history([], *["repeat 0"] * 4, "end", "repeat 0", *["end"] * 4)

    def test_the_61st_row(self):
        for row in ["flip", "", "x", "end", "repeat 1"]:
            self.assert_script(60, *["flip"] * 60, row)
            self.assert_script(60, *["flip"] * 60, row, "x", "end")
        self.assert_script(60, *["flip"] * 200)
        self.assert_script(60, "repeat 0", *["flip"] * 59, "end")
        self.assert_history([FLIP] * 58, "repeat 1", *["flip"] * 58, "end")

    def test_which_of_several_faults_is_the_first(self):
        self.assert_script(1, "flip", "x", "end", *["flip"] * 60)
        self.assert_script(0, "end", "x")
        self.assert_script(1, "repeat 1", "x")
        self.assert_script(59, *["flip"] * 59, "end", "flip")
        self.assert_script(4, *["repeat 1"] * 5, "x")
        self.assert_script(3, *["repeat 1"] * 3, "x", "repeat 1", "repeat 1")
        self.assert_script(60, *["repeat 1"] * 4, *["flip"] * 57)

    def test_they_come_ahead_of_what_the_execution_raises(self):
        self.assert_script(1, "expose 0", "x")
        self.assert_script(2, "repeat 99", "expose 0", "end x")
        self.assert_script(60, *["expose 0"] * 61)
        self.assert_script(3, "repeat 99", "repeat 99", "end")

    def test_wrong_steps_come_first(self):
        self.assert_steps(lambda steps: run_script(SHORT, steps, "flip"))
        wrong = [(SHORT, (), "x"), (SHORT, (2, 1), "expose 0"), (SHORT, (0,), "end")]
        self.assert_errors(InvalidSteps, run_script, wrong)


class ExecutionFailedTest(ScriptCase):

    def test_deeds_out_of_their_ranges(self):
        for row in ["expose 0", "expose 0 1", "expose 1 3", "expose 1 0 3", "expose 1 99", "expose 1 1 0",
                    "expose 1 0 0", "expose 1 0 2 1", "draw 0 1", "draw 1 0", "draw 0 0"]:
            self.assert_failed(0, row)
            self.assert_failed(2, "flip", "show", row, "expose 0")
            self.assert_failed(1, "repeat 2", row, "end")
            self.assert_failed(2, "expose 1", "when 0 1", row, "end")
            self.assert_output(["000"], "repeat 0", row, "end", "when 0 1", row, "end", "show")

    def test_when_with_a_cell_that_there_is_not(self):
        for cell in ("3", "9", "10", "99"):
            self.assert_failed(0, "when " + cell + " 0", "end")
            self.assert_failed(1, "flip", "when " + cell + " 99", "flip", "end")
            self.assert_failed(2, "repeat 1", "flip", "when " + cell + " 0", "end", "end")
            self.assert_output(["000"], "when 0 1", "when " + cell + " 0", "end", "end", "show")
        with self.assertRaises(ExecutionFailed):
            run_script(Negative(1, 1, "0"), STEPS, "when 1 0\nend")

    def test_a_row_that_fails_the_second_time(self):
        self.assert_failed(2, "repeat 2", "when 0 1", "draw 0 1", "end", "expose 1", "end")


class TooLongTest(ScriptCase):

    def test_rows_alone(self):
        # The first row makes 1 step, and 97 times its rows make 3 each: 1 for their execution, and 1 for each of them.
        self.assert_history([FLIP] * 195, "repeat 97", "flip", "flip", "end", "flip", *["show"] * 7)
        self.assert_long("repeat 97", "flip", "flip", "end", "flip", *["show"] * 8)

    def test_repeats_of_no_rows(self):
        self.assert_history([], *["repeat 99", "end"] * 3)
        self.assert_long(*["repeat 99", "end"] * 3, "show")
        self.assert_long(*["repeat 99", "end"] * 3, "repeat 0", "end")
        self.assert_history([], *["repeat 99", "end"] * 2, "repeat 98", "end", "repeat 0", "end")
        self.assert_long(*["repeat 99", "end"] * 2, "repeat 98", "end", "repeat 1", "end")

    def test_repeats_in_repeats(self):
        # The inner one makes 1 + 97 steps, and the outer one 1 + 3 * (1 + 98).
        self.assert_history([], "repeat 3", "repeat 97", "end", "end", "show", "show")
        self.assert_long("repeat 3", "repeat 97", "end", "end", "show", "show", "show")

    def test_an_execution_of_when_is_one_step(self):
        self.assert_history([], "repeat 99", "when 0 0", "end", "end", *["repeat 99", "end"], "show")
        self.assert_long("repeat 99", "when 0 0", "end", "end", *["repeat 99", "end"], "show", "show")
        self.assert_history([], "repeat 99", "when 0 1", "show", "end", "end", *["repeat 99", "end"], "show")
        self.assert_history([FLIP] * 99, "when 0 0", "repeat 99", "flip", "end", "end", *["repeat 98", "end"])
        self.assert_output(["000"] * 99, "when 0 0", "repeat 99", "show", "end", "end", *["repeat 98", "end"])
        self.assert_long("when 0 0", "repeat 99", "flip", "end", "end", *["repeat 99", "end"], "show")

    def test_an_end_is_no_step(self):
        rows = ["when 0 0", "end"] * 20 + ["repeat 99", "end"] * 2 + ["repeat 79", "end"]
        self.assert_history([], *rows)
        self.assert_long(*rows, "show")

    def test_the_301st_step_is_not_executed(self):
        self.assert_long(*["repeat 99", "end"] * 3, "expose 0")
        self.assert_long(*["repeat 99", "end"] * 3, "when 9 0", "end")
        self.assert_failed(6, *["repeat 99", "end"] * 2, "repeat 98", "end", "expose 0", "show")
        self.assert_failed(6, *["repeat 99", "end"] * 2, "repeat 98", "end", "when 9 0", "end")

    def test_very_long_scripts(self):
        self.assert_long(*["repeat 99"] * 4, "flip", *["end"] * 4)
        self.assert_long(*["repeat 99"] * 4, *["end"] * 4)


class SlowModelTest(ScriptCase):

    def rows(self, chance, depth):
        """Rows by chance, some of which fail when they are executed."""
        found = []
        for again in range(chance.randrange(1, 5)):
            word = chance.choice(["expose 1", "expose 2 0", "draw 3 1", "flip", "fresh", "show", "repeat", "when",
                                  "when"])
            if chance.random() < 0.03:
                word = chance.choice(["expose 0", "expose 1 9", "expose 1 1 0", "draw 0 5", "when 7 0"])
            if word == "repeat":
                word = "repeat " + chance.choice(["0", "1", "2", "3", "12", "70"])
            if word == "when":
                word = "when " + chance.choice("0123") + " " + chance.choice("0012")
            if word.split(" ")[0] not in ("repeat", "when"):
                found.append(word)
            elif depth < 4:
                found += [word] + self.rows(chance, depth + 1) + ["end"]
        return found

    def test_scripts_by_chance(self):
        chance = random.Random(30)
        ends = {"long": 0, "failed": 0, "right": 0}
        for again in range(300):
            negative = Negative(2, 2, "".join(chance.choice("01234") for cell in range(4)))
            text = "\n".join(self.rows(chance, 0))
            if text.count("\n") >= 60:
                continue
            try:
                slow, output = slow_script(negative, (8, 30), text)
            except Stop as stop:
                error = TooLong if stop.what == "long" else ExecutionFailed
                with self.assertRaises(error, msg=text) as caught:
                    run_script(negative, (8, 30), text)
                if stop.what == "long":
                    ends["long"] += 1
                else:
                    self.assertEqual(caught.exception.row, stop.what, text)
                    ends["failed"] += 1
                continue
            room, lines = run_script(negative, (8, 30), text)
            self.assertEqual([told(room), lines], [slow.told(), output], text)
            ends["right"] += 1
        self.assertGreater(min(ends.values()), 5, ends)


if __name__ == "__main__":
    unittest.main()
