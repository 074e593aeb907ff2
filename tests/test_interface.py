"""The interface: names and arguments, and where they are defined."""

import importlib
import inspect
import unittest

INTERFACE = {
    "words": ("signed(word)", "operate(operation, left, right)", "compare(relation, left, right)"),
    "programs": ("start_state(program, core)", "step(program, state, choice)", "run(program, core, choices)"),
    "executions": ("events_of(program, choices)", "preserved(program, order, choices)",
                   "check(program, order, execution)", "outcome(program, order, execution)"),
    "interleaving": ("interleave(program, turns)",),
    "graphs": ("communication_of(program, order, execution)", "is_consistent(program, choices, communication)",
               "must_follow(program, order, choices, communication)",
               "arrange(program, order, choices, communication)"),
    "buffers": ("waiting(buffer)", "newest_word(buffer, address)", "with_fence(buffer)",
                "may_leave(order, buffer, index)", "without(buffer, index)"),
    "history": ("first_situation(program)", "word_at(program, history, address, time)",
                "found_word(program, situation, core, address, time)",
                "after_move(program, order, situation, move)", "is_final(situation)",
                "final_outcome(program, situation)"),
}


class InterfaceTest(unittest.TestCase):
    def test_functions_and_their_arguments(self):
        for name, functions in INTERFACE.items():
            module = importlib.import_module(f"litmuscore.{name}")
            for line in functions:
                function = getattr(module, line[:line.index("(")])
                self.assertEqual(function.__name__ + str(inspect.signature(function)), line)
                self.assertEqual(function.__module__, module.__name__)
