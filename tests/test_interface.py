"""The interface: names and arguments, and where they are defined."""

import importlib
import inspect
import unittest

from litmuscore.simulator import Simulator

INTERFACE = {
    "words": ("signed(word)", "operate(operation, left, right)", "compare(relation, left, right)"),
    "programs": ("start_state(program, core)", "step(program, state, choice)", "run(program, core, choices)"),
    "executions": ("events_of(program, choices)", "preserved(program, order, choices)",
                   "check(program, order, execution)", "outcome(program, order, execution)"),
    "interleaving": ("interleave(program, turns)",),
    "graphs": ("communication_of(program, order, execution)", "is_consistent(program, choices, communication)",
               "must_follow(program, order, choices, communication)",
               "arrange(program, order, choices, communication)"),
    "buffers": ("waiting(buffer)", "newest_word(buffer, address)", "with_fence(buffer)",
                "may_leave(order, buffer, index)", "without(buffer, index)"),
    "history": ("first_situation(program)", "word_at(program, history, address, time)",
                "found_word(program, situation, core, address, time)",
                "after_move(program, order, situation, move)", "is_final(situation)",
                "final_outcome(program, situation)"),
    "paths": ("shown_execution(program, order, moves)", "moves_for(program, order, execution)"),
    "outcomes": ("tried_moves(program, order, situation)", "explore(program, order, *, limit=2000)",
                 "outcomes_of(program, order, *, limit=2000)"),
    "traces": ("explore_traces(program, order, *, limit=2000)", "graphs_of(program, order, *, limit=2000)"),
    "caches": ("read_word(config, cache, address)", "can_write(config, cache, address)",
               "write_word(config, cache, address, word)", "request_line(config, cache, core, line, exclusive)",
               "give_up_line(cache, core, line)", "cache_receives(cache, message)"),
    "directory": ("can_receive(home, message)", "home_receives(config, home, words, message)"),
    "network": ("start_system(program, config)", "deliverable(system)", "next_system(config, system, action)",
                "written(config, system, core, address, word)", "coherent_word(config, system, address)",
                "work(system)"),
    "pipelines": ("start_pipeline(program, core)", "predicted(program, pc, successor, value)",
                  "destination(instruction)", "operand(pipeline, index, number)",
                  "fetch(program, config, pipeline, successor, value)", "execute(pipeline, index)",
                  "resolve(program, pipeline, index)", "readable_word(config, pipeline, cache, index)",
                  "load(config, pipeline, cache, index, time)"),
    "commits": ("visible_word(config, pipeline, cache, address)", "commit(config, pipeline, cache, time)",
                "drain(config, pipeline, cache, index)", "keep_reservation(config, pipeline, cache)"),
    "machine": ("start_machine(program, config)", "after_action(program, config, machine, action)",
                "possible_actions(program, config, machine)", "is_finished(machine)", "reported(machine)",
                "machine_outcome(config, machine)"),
    "service": ("obtain(config, machine, core, line, exclusive)", "next_action(program, config, machine, core)",
                "serve(program, config, machine, core, *, most=1000)",
                "run_to_end(program, config, machine, *, rounds=60)"),
    "realization": ("realize(program, order, execution)",),
    "litmus": ("holds(condition, values)", "observed_values(test, result)", "decide(test, order, *, limit=2000)"),
    "fences": ("slots_of(program)", "fences_of(program)", "with_plan(program, plan)", "plan_cost(plan, costs)",
               "plans(many)", "is_sufficient(test, order, wanted, plan, *, limit=2000)",
               "cheapest(test, order, wanted, costs, *, limit=2000)",
               "check_certificate(test, order, wanted, costs, plan, certificate, *, limit=2000)",
               "barring(program, order, execution)", "needless(test, order, *, limit=2000)"),
    "tokens": ("tokens_of(line)",),
    "reader": ("read_test(text)",),
    "printer": ("show_test(test)",),
}
CLASSES = {
    "configs": ("Config(order, *, reorder_buffer=4, store_buffer=2, line_words=1, sets=1, ways=4, requests=1, "
                "exclusive_state=True)",),
    "errors": ("InvalidExecution(violation)", "TooManySituations(limit)", "TooManySlots(many)",
               "ActionNotPossible(place)", "TextError(line, column)"),
    "simulator": ("Simulator(program, config)",),
}
METHODS = ("apply(self, action)", "perform(self, actions)", "serve(self, core, *, most=1000)",
           "run_to_end(self, *, rounds=60)", "execution(self)", "outcome(self)")


class InterfaceTest(unittest.TestCase):
    def test_functions_and_their_arguments(self):
        for name, functions in INTERFACE.items():
            module = importlib.import_module(f"litmuscore.{name}")
            for line in functions:
                function = getattr(module, line[:line.index("(")])
                self.assertEqual(function.__name__ + str(inspect.signature(function)), line)
                self.assertEqual(function.__module__, module.__name__)

    def test_classes_and_how_their_objects_are_made(self):
        for name, classes in CLASSES.items():
            module = importlib.import_module(f"litmuscore.{name}")
            for line in classes:
                made = getattr(module, line[:line.index("(")])
                self.assertEqual(made.__name__ + str(inspect.signature(made)), line)
                self.assertEqual(made.__module__, module.__name__)
                self.assertIn("__init__", vars(made))

    def test_the_methods_of_simulators(self):
        for line in METHODS:
            method = vars(Simulator)[line[:line.index("(")]]
            self.assertEqual(method.__name__ + str(inspect.signature(method)), line)
        for name in ("time", "finished"):
            self.assertIsInstance(vars(Simulator)[name], property)
