"""Points 4, 5, 8 and 9: which values are texts, wishes and scripts."""

import copy
import itertools
import unittest

from indentsteps.texts import is_script, is_text, is_wish

HUGE = 10 ** 40 - 1


def nested(levels, kind):
    """Return an empty list or tuple inside so many others."""
    value = kind()
    for _ in range(levels - 1):
        value = kind([value])
    return value


# What point 2 allows for `value` and what is no depth.
NO_DEPTHS = [
    -1, 21, -20, 22, 100, HUGE, -HUGE,
    True, False,
    "", "0", "in", "None", "x" * 100,
    (), (0,), (None,), [], [0], [None], [True],
    nested(18, list), nested(18, tuple), [0] * 300, (0,) * 300,
]
DEPTHS = [0, 1, 10, 19, 20]

# What point 2 allows for `value` and what is no tuple at all.
NO_TUPLES = [
    0, 1, 20, -1, HUGE, -HUGE, True, False, None,
    "", "0", "in", "out", "text", "x" * 100,
    [], [0], [0, 1], [None], [(0, 1)], [[0]], ["in", 0, 1], [("in", 0, 1)], [["in", 0, 1]],
    [0] * 300, nested(20, list), [nested(19, tuple)], [[1, [2, (3, None)]], True, "x"],
]

# Tuples that are neither texts nor wishes nor scripts.
OTHER_TUPLES = [
    (True,), (False,), (0, True), ("in",), ("in", 0, 1), ("0",), ("",), ((),), ([],), ((0,),), ([0],),
    ((0, 1), (2, 3)), ([0, 1],), ((None,),), (-1,), (21,), (HUGE,), (-HUGE,),
    (0,) * 300, (None,) * 300, ((),) * 300, nested(20, tuple), (nested(19, list),), (0, nested(19, tuple)),
    (1, (2, [3, (None, "x")]), False),
]


class Checks(unittest.TestCase):
    """Asks for exactly True or False, twice, and for a value that stays as it was."""

    def check(self, wanted, function, *arguments):
        before = copy.deepcopy(arguments)
        self.assertIs(function(*arguments), wanted, (function, arguments))
        self.assertIs(function(*arguments), wanted, (function, arguments))
        # repr tells True from 1, which == does not.
        self.assertEqual(repr(arguments), repr(before))

    def check_row(self, text, wish, value):
        self.check(text, is_text, value)
        self.check(wish, is_wish, value)


class TextsAndWishes(Checks):

    def test_ordinary(self):
        for value in [(0,), (3,), (0, 2, 1), (5, 5, 5, 5), (0, 4, 8, 4, 0), tuple(range(20))]:
            self.check_row(True, True, value)

    def test_depths_at_the_bounds(self):
        for length in (1, 2, 20):
            for depth in (0, 20):
                self.check_row(True, True, (depth,) * length)
            for depth in (-1, 21):
                self.check_row(False, False, (depth,) * length)

    def test_every_depth(self):
        for depth in range(-30, 60):
            self.check_row(0 <= depth <= 20, 0 <= depth <= 20, (depth,))

    def test_every_number_of_lines(self):
        for length in range(60):
            right = 1 <= length <= 20
            self.check_row(right, right, (0,) * length)
            self.check_row(right, right, (20,) * length)
            self.check(right, is_wish, (None,) * length)
        self.check_row(False, False, (0,) * 300)
        self.check_row(False, False, (None,) * 300)

    def test_free_lines(self):
        for value in [(None,), (None, 3), (3, None), (None, None, None), (20, None, 0), (None,) * 20]:
            self.check_row(False, True, value)

    def test_free_lines_beside_wrong_depths(self):
        for wrong in NO_DEPTHS:
            self.check_row(False, False, (None, wrong))
            self.check_row(False, False, (wrong, None))

    def test_other_items(self):
        for wrong in NO_DEPTHS:
            self.check_row(False, False, (wrong,))
            self.check_row(False, False, (wrong,) * 20)

    def test_other_kinds(self):
        for value in NO_TUPLES + OTHER_TUPLES:
            self.check_row(False, False, value)
        self.check_row(False, False, ())

    def test_lists(self):
        for row in [(0,), (0, 2, 1), (20,) * 20]:
            self.check_row(False, False, list(row))

    def changed_rows(self, base, places):
        """Give each row with other items at the places, and whether these are depths, or depths and None."""
        items = [(item, True, True) for item in DEPTHS]
        items += [(item, False, False) for item in NO_DEPTHS]
        items.append((None, False, True))
        for chosen in itertools.product(items, repeat=len(places)):
            row = list(base)
            for place, (item, _, _) in zip(places, chosen):
                row[place] = item
            yield tuple(row), all([c[1] for c in chosen]), all([c[2] for c in chosen])

    def test_one_place_changed(self):
        for base in [(0, 2, 1), (20, 0, 7, 3), (4,) * 20]:
            for place in range(len(base)):
                for row, text, wish in self.changed_rows(base, [place]):
                    self.check_row(text, wish, row)

    def test_two_places_changed(self):
        for base, pairs in [((20, 0, 7, 3), list(itertools.combinations(range(4), 2))),
                            ((4,) * 20, [(0, 19), (0, 1), (9, 10), (18, 19)])]:
            for places in pairs:
                for row, text, wish in self.changed_rows(base, places):
                    self.check_row(text, wish, row)

    def test_free_lines_in_changed_wishes(self):
        base = (None, 3, None, 0)
        for places in itertools.combinations(range(4), 2):
            for row, _, wish in self.changed_rows(base, places):
                self.check(wish, is_wish, row)

    def test_one_line_more_or_less(self):
        self.check_row(True, True, (1,) * 19)
        self.check_row(True, True, (1,) * 20)
        self.check_row(False, False, (1,) * 21)
        self.check(True, is_wish, (None, 1) * 10)
        self.check(False, is_wish, (None, 1) * 10 + (None,))


NAMES = ["in", "out"]
NO_NAMES = [
    "", "i", "n", "o", "in ", " in", "In", "IN", "ni", "inn", "out ", "Out", "OUT", "ou", "outt", "tuo", "inout",
    "in,out", "indent", "outdent", "x" * 100, "0", 0, 1, -1, HUGE, True, False, None,
    (), ("in",), ("in", "out"), [], ["in"], ["out"], nested(18, list), nested(18, tuple),
]
NO_INDICES = [
    True, False, None, "", "0", "1", "in", (), (0,), (1,), [], [0], [1], nested(18, list), nested(18, tuple),
    HUGE, -HUGE, -2, 300,
]


class Scripts(Checks):

    def right_ranges(self, length):
        """List the pairs of a start and an end of a command for so many lines."""
        return [(start, end) for end in range(1, length + 1) for start in range(end)]

    def test_ordinary(self):
        self.check(True, is_script, 3, (("in", 0, 3),))
        self.check(True, is_script, 3, (("out", 1, 2), ("in", 0, 1), ("in", 2, 3)))
        self.check(True, is_script, 20, (("out", 0, 20), ("out", 0, 20), ("in", 7, 9)))

    def test_number_of_commands(self):
        for length in (1, 5, 20):
            for many in (0, 1, 2, 59, 60):
                self.check(True, is_script, length, (("in", 0, 1),) * many)
                self.check(True, is_script, length, (("out", 0, length),) * many)
            for many in (61, 62, 120, 300):
                self.check(False, is_script, length, (("in", 0, 1),) * many)
                self.check(False, is_script, length, (("out", 0, length),) * many)

    def test_every_start_and_end(self):
        for length in range(1, 21):
            right = self.right_ranges(length)
            for start in range(-2, length + 3):
                for end in range(-2, length + 3):
                    wanted = (start, end) in right
                    self.check(wanted, is_script, length, (("in", start, end),))
                    self.check(wanted, is_script, length, (("out", start, end),))

    def test_bounds_by_name(self):
        for length in (1, 3, 20):
            for name in NAMES:
                self.check(True, is_script, length, ((name, 0, length),))
                self.check(True, is_script, length, ((name, length - 1, length),))
                self.check(False, is_script, length, ((name, 0, length + 1),))
                self.check(False, is_script, length, ((name, -1, length),))
                self.check(False, is_script, length, ((name, 0, 0),))
                self.check(False, is_script, length, ((name, length, length),))
                self.check(False, is_script, length, ((name, length, length + 1),))
                self.check(False, is_script, length, ((name, length, 0),))

    def test_the_length_decides(self):
        for end in range(1, 21):
            for length in range(1, 21):
                self.check(end <= length, is_script, length, (("in", 0, 1), ("out", end - 1, end)))

    def test_other_names(self):
        for name in NO_NAMES:
            self.check(False, is_script, 3, ((name, 0, 1),))
            self.check(False, is_script, 3, (("in", 0, 1), (name, 0, 1)))

    def test_true_and_false(self):
        self.check(True, is_script, 3, (("in", 0, 1),))
        self.check(False, is_script, 3, (("in", False, 1),))
        self.check(False, is_script, 3, (("in", 0, True),))
        self.check(False, is_script, 3, (("in", False, True),))
        self.check(True, is_script, 3, (("in", 1, 2),))
        self.check(False, is_script, 3, (("in", True, 2),))

    def test_other_indices(self):
        for wrong in NO_INDICES:
            self.check(False, is_script, 3, (("in", wrong, 1),))
            self.check(False, is_script, 3, (("in", wrong, 3),))
            self.check(False, is_script, 3, (("out", 0, wrong),))
            self.check(False, is_script, 3, (("out", wrong, wrong),))

    def test_lists_for_tuples(self):
        self.check(False, is_script, 3, [])
        self.check(False, is_script, 3, [("in", 0, 1)])
        self.check(False, is_script, 3, (["in", 0, 1],))
        self.check(False, is_script, 3, [["in", 0, 1]])
        self.check(False, is_script, 3, (("in", 0, 1), ["in", 0, 1]))
        self.check(False, is_script, 3, (["in", 0, 1], ("in", 0, 1)))

    def test_commands_of_other_sizes(self):
        for wrong in [(), ("in",), ("in", 0), (0, 1), ("in", 0, 1, 2), ("in", 0, 1, None), ("in", (0, 1)),
                      ("in", 0, 1, 0, 1), ("in", 0, 1) * 100, (("in", 0, 1),)]:
            self.check(False, is_script, 3, (wrong,))
            self.check(False, is_script, 3, (("in", 0, 1), wrong))
            self.check(False, is_script, 3, (wrong, ("in", 0, 1)))

    def test_a_command_is_no_script(self):
        self.check(False, is_script, 3, ("in", 0, 1))

    def test_other_kinds(self):
        for value in NO_TUPLES + OTHER_TUPLES:
            for length in (1, 3, 20):
                self.check(False, is_script, length, value)

    def test_other_kinds_for_a_command(self):
        for value in NO_TUPLES + NO_DEPTHS:
            self.check(False, is_script, 3, (value,))
            self.check(False, is_script, 3, (("in", 0, 1), value, ("in", 0, 1)))

    def test_one_wrong_command_anywhere(self):
        for many in (1, 2, 3, 60):
            for place in range(many):
                script = [("in", 0, 3)] * many
                self.check(True, is_script, 3, tuple(script))
                for wrong in [("in", 0, 4), ("in", -1, 3), ("out", 2, 2), ("up", 0, 3), None, ["in", 0, 3]]:
                    script[place] = wrong
                    self.check(False, is_script, 3, tuple(script))

    def is_right(self, length, name, start, end):
        """Tell whether the three are a command, by a list of all commands."""
        kinds = (type(name), type(start), type(end))
        if kinds != (str, int, int):
            return False
        return name in NAMES and (start, end) in self.right_ranges(length)

    def changed_scripts(self, length, base, places):
        """Give each script with other items at the places: pairs of a command and one of its three items."""
        offers = {0: NAMES + NO_NAMES, 1: list(range(-1, length + 2)) + NO_INDICES,
                  2: list(range(-1, length + 2)) + NO_INDICES}
        for chosen in itertools.product(*[offers[item] for _, item in places]):
            script = [list(command) for command in base]
            for (command, item), new in zip(places, chosen):
                script[command][item] = new
            yield tuple([tuple(command) for command in script])

    def check_changed(self, length, base, places):
        for script in self.changed_scripts(length, base, places):
            wanted = all([self.is_right(length, *command) for command in script])
            self.check(wanted, is_script, length, script)

    def test_one_place_changed(self):
        for length, base in [(1, (("in", 0, 1),)), (4, (("in", 0, 4), ("out", 1, 3), ("in", 3, 4))),
                             (20, (("out", 0, 20), ("in", 19, 20)))]:
            for place in itertools.product(range(len(base)), range(3)):
                self.check_changed(length, base, [place])

    def test_two_places_changed(self):
        base = (("in", 0, 4), ("out", 1, 3), ("in", 3, 4))
        every = list(itertools.product(range(3), range(3)))
        for places in itertools.combinations(every, 2):
            self.check_changed(4, base, places)

    def test_lengths_somewhat_beyond(self):
        self.check(True, is_script, 0, ())
        self.check(False, is_script, 0, (("in", 0, 1),))
        self.check(True, is_script, 22, (("in", 0, 22),))
        self.check(False, is_script, 22, (("in", 0, 23),))


if __name__ == "__main__":
    unittest.main()
