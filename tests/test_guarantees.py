"""Points 2 and 3: what holds over the whole program."""

import itertools
import random
import unittest

from indentsteps.commands import apply, idle
from indentsteps.distances import best_counts, counts_cost, distance, is_certificate, plan
from indentsteps.scripts import commute, difference, effects, equal, fewest_equal, shortest_equal, sources
from indentsteps.search import count_plans, hidden_commands
from indentsteps.texts import is_script, is_text, is_wish

from plain import (Box, Checks, all_commands, cheapest, fits, fixed_lines, layered_script, random_script, random_text,
                   random_wish, rises, run)


def pairs_of_texts(source, many=4):
    """Give texts and wishes of 1 to 20 lines, some with free lines."""
    for length in range(1, 21):
        for deepest in (1, 2, 5, 20):
            for _ in range(many):
                free = source.choice([0, 0, 2, 5])
                yield random_text(source, length, deepest), random_wish(source, length, deepest, free)


class Distances(Checks):

    def test_the_fewest_commands_are_the_smallest_cost(self):
        box = Box(3, 6)
        source = random.Random(1)
        for text in source.sample(list(itertools.product(range(4), repeat=3)), 20):
            steps = box.steps_from(text)
            for _ in range(15):
                wish = random_wish(source, 3, 3, 2)
                fewest = min([steps[other] for other in steps if fits(other, wish)])
                self.assertEqual(fewest, cheapest(text, wish, 4), (text, wish))
                self.check(fewest, distance, text, wish)
                self.assertEqual(counts_cost(*best_counts(text, wish)), fewest)
                self.assertEqual(len(plan(text, wish)), fewest)

    def test_plain_differences_are_never_better(self):
        for text, wish in pairs_of_texts(random.Random(2)):
            text, wish = fixed_lines(text, wish)
            if text:
                outs = tuple([max(0, depth - wished) for depth, wished in zip(text, wish)])
                ins = tuple([max(0, wished - depth) for depth, wished in zip(text, wish)])
                self.assertIs(is_certificate(text, wish, (outs, ins)), True)
                self.assertLessEqual(distance(text, wish), counts_cost(outs, ins), (text, wish))
        # It can be smaller.
        self.assertLess(distance((3, 0, 3), (0, 0, 0)), counts_cost((3, 0, 3), (0, 0, 0)))

    def test_all_outs_before_all_ins(self):
        for text, wish in pairs_of_texts(random.Random(3)):
            script = layered_script(*best_counts(text, wish))
            self.assertEqual(len(script), distance(text, wish), (text, wish))
            self.assertTrue(fits(apply(text, script), wish), (text, wish, script))

    def test_free_lines_do_not_matter(self):
        source = random.Random(4)
        for text, wish in pairs_of_texts(source):
            wanted = distance(text, wish)
            short_text, short_wish = fixed_lines(text, wish)
            if short_text:
                self.check(wanted, distance, short_text, short_wish)
            else:
                self.assertEqual(wanted, 0)
            other = tuple([source.randint(0, 20) if wished is None else depth for depth, wished in zip(text, wish)])
            self.check(wanted, distance, other, wish)
            if len(text) < 20:
                at = source.randint(0, len(text))
                longer = text[:at] + (source.randint(0, 20),) + text[at:]
                self.check(wanted, distance, longer, wish[:at] + (None,) + wish[at:])

    def test_reversed_lines(self):
        for text, wish in pairs_of_texts(random.Random(5)):
            self.check(distance(text, wish), distance, text[::-1], wish[::-1])

    def test_repeated_lines(self):
        for text, wish in pairs_of_texts(random.Random(6)):
            for many in (2, 3, 4, 10, 20):
                if many * len(text) <= 20:
                    longer = [tuple([item for item in row for _ in range(many)]) for row in (text, wish)]
                    self.check(distance(text, wish), distance, *longer)

    def test_an_added_line(self):
        for text, wish in pairs_of_texts(random.Random(7), 1):
            for depth in (0, 1, 20):
                if len(text) < 20:
                    self.check(distance(text, wish), distance, (depth,) + text, (depth,) + wish)
                    self.check(distance(text, wish), distance, text + (depth,), wish + (depth,))

    def test_each_line_left_out_put_in_twice_or_wished_otherwise(self):
        for text, wish in pairs_of_texts(random.Random(18)):
            whole = distance(text, wish)
            for line, wished in enumerate(wish):
                above, here, below = slice(line), slice(line, line + 1), slice(line + 1, None)
                left_out = 0
                if len(text) > 1:
                    left_out = distance(text[above] + text[below], wish[above] + wish[below])
                self.assertEqual(distance(text, wish[above] + (None,) + wish[below]), left_out, (text, wish, line))
                self.assertLessEqual(left_out, whole, (text, wish, line))
                if len(text) < 20:
                    # The commands that select a line can select the same line below it, too.
                    twice = [row[above] + row[here] * 2 + row[below] for row in (text, wish)]
                    self.assertEqual(distance(*twice), whole, (text, wish, line))
                if wished is not None and wished < 20:
                    # One command for this line leads from either wish to the other.
                    further = distance(text, wish[above] + (wished + 1,) + wish[below])
                    self.assertLessEqual(abs(further - whole), 1, (text, wish, line))

    def test_to_and_from_the_margin(self):
        for text, _ in pairs_of_texts(random.Random(8)):
            margin = (0,) * len(text)
            self.check(max(text), distance, text, margin)
            self.check(rises(text), distance, margin, text)

    def test_each_command_changes_the_distance_by_at_most_one(self):
        source = random.Random(9)
        for text, wish in pairs_of_texts(source, 1):
            command = source.choice(all_commands(len(text)))
            self.assertLessEqual(distance(text, wish), 1 + distance(apply(text, (command,)), wish))

    def test_each_command_of_a_plan_comes_closer(self):
        for text, wish in pairs_of_texts(random.Random(10), 1):
            script = plan(text, wish)
            for done in range(len(script) + 1):
                self.assertEqual(distance(apply(text, script[:done]), wish), len(script) - done, (text, wish, script))
            self.assertEqual(idle(text, script), [])

    def test_a_script_is_never_shorter_than_the_distance(self):
        source = random.Random(11)
        for length in range(1, 21):
            for many in (0, 1, 5, 20, 60):
                text = random_text(source, length, 10)
                script = random_script(source, length, many)
                after = apply(text, script)
                self.assertLessEqual(distance(text, after), fewest_equal(length, script))
                self.assertLessEqual(fewest_equal(length, script), many)


class Scripts(Checks):

    def test_equal_scripts_have_the_same_effects(self):
        scripts = [script for many in range(3) for script in itertools.product(all_commands(2), repeat=many)]
        for first, second in itertools.product(scripts, repeat=2):
            same = effects(2, first) == effects(2, second)
            self.assertIs(equal(2, first, second), same, (first, second))
            self.assertIs(difference(2, first, second) is None, same)

    def test_the_fewest_commands_are_the_rises_of_the_effects(self):
        source = random.Random(12)
        for length in range(1, 21):
            for many in (1, 4, 15, 60):
                script = random_script(source, length, many, ("in", "out"))
                pairs = effects(length, script)
                wanted = rises([b - a for a, b in pairs]) + rises([b for _, b in pairs])
                self.check(wanted, fewest_equal, length, script)
                short = shortest_equal(length, script)
                self.assertEqual(len(short), wanted)
                self.assertEqual(effects(length, short), pairs)

    def test_the_order_of_two_commands(self):
        source = random.Random(13)
        for _ in range(400):
            one, other = source.choice(all_commands(20)), source.choice(all_commands(20))
            self.assertIs(commute(one, other), equal(20, (one, other), (other, one)), (one, other))
        for one, other in itertools.product([command for command in all_commands(20) if command[2] < 5], repeat=2):
            self.assertIs(commute(one, other), equal(20, (one, other), (other, one)), (one, other))

    def test_sources_lead_to_the_result(self):
        source = random.Random(14)
        for length in range(1, 21):
            for many in (1, 10, 60):
                text = random_text(source, length, 20)
                script = random_script(source, length, many)
                result = apply(text, script)
                found = sources(script, result)
                self.assertEqual(apply(tuple([low for low, _ in found]), script), result)
                self.assertEqual(apply(tuple([high for _, high in found]), script), result)
                self.assertTrue(all([low <= depth <= high for depth, (low, high) in zip(text, found)]))
                for line, (low, high) in enumerate(found):
                    for outside in [low - 1, high + 1]:
                        if outside >= 0:
                            other = text[:line] + (outside,) + text[line + 1:]
                            self.assertNotEqual(apply(other, script), result)

    def test_hidden_commands_are_those_of_the_results(self):
        source = random.Random(15)
        for length in (1, 3, 8, 20):
            text = random_text(source, length, 3)
            script = random_script(source, length, 10)
            for position in (0, 5, 10):
                command = source.choice(all_commands(length))
                result = apply(text, script[:position] + (command,) + script[position:])
                found = hidden_commands(text, script, position, result)
                self.assertIn(command, found)
                for other in all_commands(length):
                    leads = apply(text, script[:position] + (other,) + script[position:]) == result
                    self.assertIs(other in found, leads)

    def test_one_plan_at_least(self):
        source = random.Random(16)
        for length in range(1, 5):
            for _ in range(10):
                text, target = random_text(source, length, 4), random_text(source, length, 4)
                many = count_plans(text, target)
                self.assertIs(type(many), int)
                self.assertGreaterEqual(many, 1)
                self.check(many, count_plans, text[::-1], target[::-1])


class Values(Checks):

    def test_what_functions_return_is_what_others_take(self):
        source = random.Random(17)
        for length in range(1, 21):
            text, wish = random_text(source, length, 2), random_wish(source, length, 2, 3)
            self.assertIs(is_text(text), True)
            self.assertIs(is_wish(wish), True)
            script = plan(text, wish)
            self.assertIs(is_script(length, script), True)
            self.assertIs(is_text(apply(text, script)), True)
            self.assertIs(is_certificate(text, wish, best_counts(text, wish)), True)
            longer = random_script(source, length, 60)
            self.assertIs(is_script(length, shortest_equal(length, longer)), True)

    def test_same_values_in_any_order_of_calls(self):
        calls = [(distance, (3, 0, 3), (0, 1, 0)), (best_counts, (2, 1, 2), (0, None, 1)),
                 (plan, (3, 0, 3), (0, 1, 0)), (effects, 3, (("out", 0, 3), ("in", 1, 2))),
                 (sources, (("out", 0, 3), ("in", 1, 2)), (0, 1, 2)), (count_plans, (2, 0, 2), (0, 1, 0)),
                 (hidden_commands, (0, 1, 0), (("out", 0, 3),), 1, (0, 0, 0)),
                 (shortest_equal, 3, (("out", 0, 3), ("in", 1, 2), ("out", 1, 3))), (idle, (0, 1), (("out", 0, 1),))]
        first = [function(*arguments) for function, *arguments in calls]
        second = [function(*arguments) for function, *arguments in calls[::-1]][::-1]
        self.assertEqual(repr(first), repr(second))
        self.assertEqual(run((3, 0, 3), first[2]), (0, 1, 0))


if __name__ == "__main__":
    unittest.main()
