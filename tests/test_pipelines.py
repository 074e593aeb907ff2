"""Pipelines: [200] to [209]."""

import random

from litmuscore.configs import Config
from litmuscore.pipelines import (
    destination, execute, fetch, load, operand, predicted, readable_word, resolve, start_pipeline,
)
from litmuscore.words import compare, operate
from tests.flights import CONFIGS, EMPTY, TSO, cache_of, cut, entry, in_flight, pipeline_of, program_of, replaced
from tests.helpers import ORDERS, ZEROS, Case, registers

OPERATIONS = ("add", "sub", "mul", "and", "or", "xor", "slt", "sltu")
RELATIONS = ("eq", "ne", "lt", "ge", "ltu", "geu")
WITH_DESTINATION = tuple((name, 3, 1, 2) for name in (*OPERATIONS, "addi", "load", "swap", "fetch add",
                                                      "store conditional")) + (("load linked", 3, 1),)
WITHOUT_DESTINATION = (("store", 3, 1, 2), ("fence", "loads"), ("fence", "slot"), ("branch", "eq", 3, 3, 3),
                       ("jump", 3),
                       ("halt",), None)
ATOMICS = (("swap", 3, 1, 2), ("fetch add", 3, 1, 2), ("load linked", 3, 1), ("store conditional", 3, 1, 2))
MEMORY = (("load", 3, 1, 2), ("store", 3, 1, 2)) + ATOMICS
COMPUTED = (("add", 3, 1, 2), ("addi", 3, 1, 2), ("branch", "eq", 1, 2, 0), ("jump", 4))
LOAD = ("load", 3, 0, 0)
STORE = ("store", 1, 0, 0)


class StartTest(Case):
    def test_the_start(self):
        program = ((("halt",),), (3, 24, 0), (5,))
        for core, pc in enumerate((3, 24, 0)):
            self.expect(((pc, ZEROS, False, -1), (), (), False, 0), start_pipeline, program, core)


class PredictedTest(Case):
    def predicts(self, instruction, told, successor, result):
        """The instruction at the code address 2 is predicted so if these are told."""
        program = program_of(("halt",), ("halt",), instruction)
        self.expect((successor, result), predicted, program, 2, *told)

    def test_successors(self):
        for value in (None, 0, 65535):
            for successor in (None, 0, 1, 3, 24):
                branch = 3 if successor is None else successor
                self.predicts(("branch", "eq", 1, 2, 0), (successor, value), branch, None)
                for target in (0, 2, 24):
                    self.predicts(("jump", target), (successor, value), target, None)

    def test_all_other_instructions(self):
        for value in (None, 0, 7, 65535):
            for successor in (None, 0, 24):
                for instruction in (("load", 0, 1, 2), *MEMORY):
                    if instruction[0] != "store":
                        self.predicts(instruction, (successor, value), 3, value)
                for instruction in (("add", 3, 1, 2), ("addi", 3, 1, 2), ("store", 3, 1, 2), ("fence", "loads"),
                                    ("fence", "stores"), ("fence", "full"), ("fence", "slot"), ("halt",)):
                    self.predicts(instruction, (successor, value), 3, None)

    def test_outside_of_the_code(self):
        for many in (0, 1, 24):
            program = ((("jump", 0),) * many, (0,), (0,))
            for pc in (many, many + 1, 24, 25, 1000):
                for told in ((None, None), (0, 0), (7, 65535), (24, None)):
                    self.expect((pc + 1, None), predicted, program, pc, *told)


class DestinationTest(Case):
    def test_instructions_with_a_destination(self):
        for instruction in WITH_DESTINATION:
            for number in range(8):
                changed = (instruction[0], number, *instruction[2:])
                self.expect(number or None, destination, changed)

    def test_instructions_without_a_destination(self):
        for instruction in WITHOUT_DESTINATION:
            self.expect(None, destination, instruction)


class OperandTest(Case):
    def test_register_zero(self):
        entries = in_flight((("addi", 0, 0, 5), {"result": 5}), ("addi", 0, 0, 6),
                            (("swap", 0, 0, 0), {"predicted": 7}))
        for index in range(4):
            self.expect(0, operand, pipeline_of(entries), index, 0)

    def test_the_committed_state(self):
        entries = in_flight(*[instruction for instruction in WITHOUT_DESTINATION[:-2]], ("load", 0, 3, 0),
                            ("addi", 4, 0, 0))
        pipeline = pipeline_of(entries, r3=8, r4=9)
        for index in range(len(entries) + 1):
            self.expect(8, operand, pipeline, index, 3)
            self.expect(9 if index < len(entries) else None, operand, pipeline, index, 4)
        self.expect(8, operand, pipeline_of((), r3=8), 0, 3)

    def test_each_instruction_with_this_destination(self):
        for instruction in WITH_DESTINATION:
            for told, word in (({"result": 6}, 6), ({"result": 0}, 0), ({"predicted": 5}, 5), ({"predicted": 0}, 0),
                               ({"predicted": 5, "result": 6}, 6), ({"predicted": 5, "result": 0}, 0), ({}, None)):
                pipeline = pipeline_of(in_flight(("addi", 4, 0, 0), (instruction, told), ("addi", 4, 0, 0)), r3=8)
                for index, wanted in enumerate((8, 8, word, word)):
                    self.expect(wanted, operand, pipeline, index, 3)
                self.expect(0, operand, pipeline, 2, 2)

    def test_the_youngest_older_entry(self):
        entries = in_flight((("addi", 3, 0, 1), {"result": 1}), (("load", 3, 0, 0), {"predicted": 2}),
                            ("load", 3, 0, 0), (("swap", 3, 0, 0), {"predicted": 3}), ("fetch add", 3, 0, 0),
                            (("add", 3, 0, 0), {"result": 4}), (("add", 5, 0, 0), {"result": 9}))
        pipeline = pipeline_of(entries, r3=8)
        for index, word in enumerate((8, 1, 2, None, 3, None, 4, 4)):
            self.expect(word, operand, pipeline, index, 3)


class FetchTest(Case):
    code = (("load", 1, 0, 0), ("branch", "eq", 0, 0, 0), ("jump", 1), ("swap", 1, 0, 0), ("addi", 1, 0, 0), ("halt",))

    def fetches(self, pipeline, told, wanted, config=TSO):
        after = (pipeline[0], pipeline[1] + (wanted,), *pipeline[2:])
        self.expect(after, fetch, program_of(*self.code), config, pipeline, *told)

    def test_at_the_code_address_of_the_state(self):
        for pc, instruction in enumerate(self.code):
            for told in ((None, None), (0, 7), (24, 0)):
                successor, value = told
                wanted = entry(pc, instruction)
                if instruction[0] == "branch" and successor is not None:
                    wanted = entry(pc, instruction, successor)
                if instruction[0] == "jump":
                    wanted = entry(pc, instruction, 1)
                if instruction[0] in ("load", "swap"):
                    wanted = entry(pc, instruction, predicted=value)
                self.fetches(pipeline_of((), pc=pc, link=1, held=True, buffer=(("store", 0, 1, 3),), r1=5), told,
                             wanted)

    def test_behind_the_youngest_entry(self):
        for first, pc in ((entry(0, self.code[0]), 1), (entry(1, self.code[1], 3), 3), (entry(1, self.code[1], 24), 24),
                          (entry(2, self.code[2], 1), 1), (entry(5, ("halt",)), 6), (entry(24, None), 25)):
            instruction = self.code[pc] if pc < len(self.code) else None
            self.fetches(pipeline_of((first,), pc=first[0]), (None, None), entry(pc, instruction))
            second = entry(pc, instruction, 4 if pc == 1 else None)
            third = entry(4, self.code[4]) if pc == 1 else entry(pc + 1, self.code[pc + 1] if pc + 1 < 6 else None)
            self.fetches(pipeline_of((first, second), pc=first[0]), (None, None), third)

    def test_outside_of_the_code(self):
        for pc in (6, 23, 24):
            self.fetches(pipeline_of((), pc=pc), (0, 7), entry(pc, None))
        self.expect(((0, ZEROS, False, -1), (entry(0, None),), (), False, 0), fetch, ((), (0,), (1,)), TSO,
                    start_pipeline(((), (0,), (1,)), 0), None, None)

    def test_as_many_entries_as_the_configuration_lets(self):
        for most in (1, 2, 5):
            config = Config("tso", reorder_buffer=most)
            for many in range(most + 1):
                pipeline = pipeline_of(in_flight(*[("addi", 1, 0, 0)] * many))
                self.assertEqual(self.call(fetch, program_of(*self.code), config, pipeline, None, None) is None,
                                 many == most)

    def test_a_core_that_has_halted(self):
        for order in ORDERS:
            for buffer in ((), (("store", 0, 1, 3),)):
                pipeline = pipeline_of((), halted=True, buffer=buffer)
                self.expect(None, fetch, program_of(*self.code), CONFIGS[order], pipeline, None, None)


class ExecuteTest(Case):
    def test_operations(self):
        for name in OPERATIONS:
            for left, right in ((0, 0), (3, 5), (5, 3), (65535, 1), (32768, 32767), (300, 300), (1, 65535)):
                pipeline = pipeline_of(in_flight((name, 3, 1, 2)), r1=left, r2=right)
                self.expect(replaced(pipeline, 0, result=operate(name, left, right)), execute, pipeline, 0)

    def test_addi(self):
        for word, n, result in ((0, 0, 0), (5, 6, 11), (65535, 1, 0), (65535, 65535, 65534)):
            pipeline = pipeline_of(in_flight(("addi", 3, 1, n)), r1=word, r2=7)
            self.expect(replaced(pipeline, 0, result=result), execute, pipeline, 0)

    def test_results_where_rd_is_zero(self):
        for instruction, result in ((("addi", 0, 1, 2), 9), (("add", 0, 1, 1), 14), (("sltu", 0, 0, 1), 1)):
            pipeline = pipeline_of(in_flight(instruction), r1=7)
            after = replaced(pipeline, 0, result=result)
            self.expect(after, execute, pipeline, 0)
            # A younger entry that reads register 0 still reads 0.
            self.expect(0, operand, after, 1, 0)

    def test_branches(self):
        for relation in RELATIONS:
            for left, right in ((0, 0), (1, 2), (2, 1), (65535, 1), (1, 65535)):
                actual = 4 if compare(relation, left, right) else 1
                for successor in (0, 1, 4, 24):
                    entries = (entry(0, ("branch", relation, 1, 2, 4), successor), entry(successor, None),
                               entry(successor + 1, None))
                    pipeline = pipeline_of(entries, r1=left, r2=right)
                    after = replaced(pipeline, 0, result=0, successor=actual)
                    self.expect(after if successor == actual else cut(after, 1), execute, pipeline, 0)

    def test_jumps(self):
        for target in (0, 1, 24):
            pipeline = pipeline_of((entry(0, ("jump", target), target), entry(target, None)))
            self.expect(replaced(pipeline, 0, result=0), execute, pipeline, 0)

    def test_a_branch_to_the_next_instruction(self):
        # Both ways lead to the code address 1.
        for relation in ("eq", "ne"):
            pipeline = pipeline_of((entry(0, ("branch", relation, 1, 1, 1), 1), entry(1, None)))
            self.expect(replaced(pipeline, 0, result=0), execute, pipeline, 0)

    def test_older_entries_stay_when_a_branch_turns_out_otherwise(self):
        entries = (entry(0, ("addi", 1, 0, 1), result=1), entry(1, ("branch", "eq", 0, 0, 5), 2), entry(2, ("halt",)))
        pipeline = pipeline_of(entries)
        self.expect(cut(replaced(pipeline, 1, result=0, successor=5), 2), execute, pipeline, 1)

    def test_operands_of_older_entries(self):
        for told, word in (({"result": 6}, 6), ({"predicted": 5}, 5), ({"predicted": 5, "result": 6}, 6), ({}, None)):
            name = "load" if "predicted" in told else "addi"
            entries = in_flight(((name, 1, 0, 0), told), ("add", 3, 1, 2), ("add", 3, 2, 1), ("addi", 3, 1, 1))
            entries += (entry(4, ("branch", "ltu", 1, 2, 9), 5), entry(5, ("branch", "ltu", 2, 1, 9), 6))
            pipeline = pipeline_of(entries, r1=3, r2=100)
            results = (100 + word, 100 + word, word + 1) if told else (None,) * 3
            for index, result in zip((1, 2, 3), results):
                self.expect(replaced(pipeline, index, result=result) if told else None, execute, pipeline, index)
            taken = cut(replaced(pipeline, 4, result=0, successor=9), 5)
            self.expect(taken if told else None, execute, pipeline, 4)
            self.expect(replaced(pipeline, 5, result=0) if told else None, execute, pipeline, 5)

    def test_registers_that_the_instruction_does_not_read(self):
        # Register 1 is unknown: neither the destination, nor n, nor a target is a register that is read.
        entries = in_flight(("load", 1, 0, 0), ("addi", 1, 2, 1), ("addi", 4, 2, 1), ("add", 1, 2, 2))
        entries += (entry(4, ("jump", 1), 1), entry(1, ("branch", "ne", 2, 2, 1), 2))
        pipeline = pipeline_of(entries, r2=5)
        for index, result in ((1, 6), (2, 6), (3, 10), (4, 0), (5, 0)):
            self.expect(replaced(pipeline, index, result=result), execute, pipeline, index)

    def test_entries_that_cannot_be_executed(self):
        for instruction in (*MEMORY, ("fence", "loads"), ("fence", "slot"), ("halt",), None):
            self.expect(None, execute, pipeline_of((entry(0, instruction),)), 0)
        for instruction in COMPUTED:
            successor = 4 if instruction[0] == "jump" else 1
            pipeline = pipeline_of((entry(0, instruction, successor, result=0),))
            self.expect(None, execute, pipeline, 0)
            self.expect(None, execute, pipeline, 1)
            self.expect(None, execute, pipeline, 1000)
        self.expect(None, execute, pipeline_of(()), 0)

    def test_nothing_else_changes(self):
        pipeline = pipeline_of(in_flight(("load", 2, 0, 0), ("addi", 3, 1, 1), ("halt",)), r1=4, link=2, held=True,
                               buffer=(("store", 0, 1, 3), ("fence",)))
        self.expect(replaced(pipeline, 1, result=5), execute, pipeline, 1)


class ResolveTest(Case):
    program = program_of(memory=(0, 0, 0))

    def test_places(self):
        for word, n, place in ((0, 0, 0), (2, 0, 2), (0, 2, 2), (1, 1, 2), (3, 0, "outside"), (0, 3, "outside"),
                               (2, 1, "outside"), (65535, 1, 0), (65535, 3, 2), (65535, 0, "outside"),
                               (65535, 4, "outside"), (1000, 65535, "outside")):
            for name in ("load", "store"):
                pipeline = pipeline_of(in_flight((name, 3, 1, n)), r1=word)
                self.expect(replaced(pipeline, 0, place=place), resolve, self.program, pipeline, 0)
        for word, place in ((0, 0), (2, 2), (3, "outside"), (65535, "outside")):
            for instruction in ATOMICS:
                pipeline = pipeline_of(in_flight(instruction), r1=word, r2=1)
                self.expect(replaced(pipeline, 0, place=place), resolve, self.program, pipeline, 0)

    def test_predicted_results_stay(self):
        pipeline = pipeline_of(in_flight((("load", 3, 1, 2), {"predicted": 7}), ("halt",)))
        self.expect(replaced(pipeline, 0, place=2), resolve, self.program, pipeline, 0)

    def test_the_operand_for_ra(self):
        for told, word in (({"result": 2}, 2), ({"predicted": 1}, 1), ({"predicted": 5}, 5), ({}, None)):
            for instruction in MEMORY:
                instruction = (*instruction[:3], 0) if instruction[0] in ("load", "store") else instruction
                first = ("addi", 1, 0, 0) if "result" in told else ("load", 1, 0, 0)
                told = dict(told, place=0) if first[0] == "load" else told
                pipeline = pipeline_of(in_flight((first, told), instruction))
                place = "outside" if word == 5 else word
                after = None if word is None else replaced(pipeline, 1, place=place)
                self.expect(after, resolve, self.program, pipeline, 1)

    def test_other_operands_may_be_unknown(self):
        for instruction in (("store", 1, 0, 2), ("swap", 3, 2, 1), ("store conditional", 3, 2, 1), ("load", 1, 2, 1)):
            pipeline = pipeline_of(in_flight(("addi", 1, 0, 0), instruction))
            place = {"store": 2, "load": 1}.get(instruction[0], 0)
            self.expect(replaced(pipeline, 1, place=place), resolve, self.program, pipeline, 1)

    def test_older_memory_instructions(self):
        for instruction in MEMORY:
            for place in (0, 2, "outside", None):
                pipeline = pipeline_of(in_flight((instruction, {"place": place}), ("fence", "full"), ("load", 5, 4, 0)))
                after = None if place is None else replaced(pipeline, 2, place=0)
                self.expect(after, resolve, self.program, pipeline, 2)
        pipeline = pipeline_of(in_flight((("load", 1, 0, 0), {"place": 0}), ("addi", 1, 0, 0), ("store", 1, 4, 0),
                                         LOAD))
        self.expect(None, resolve, self.program, pipeline, 3)

    def test_other_older_and_younger_entries_do_not_matter(self):
        entries = in_flight(("addi", 5, 0, 0), ("branch", "eq", 0, 0, 1), ("fence", "full"), LOAD, STORE, ("halt",))
        self.expect(replaced(pipeline_of(entries), 3, place=0), resolve, self.program, pipeline_of(entries), 3)

    def test_entries_that_cannot_be_resolved(self):
        for instruction in (*COMPUTED, ("fence", "loads"), ("halt",), None):
            self.expect(None, resolve, self.program, pipeline_of((entry(0, instruction),)), 0)
        for instruction in MEMORY:
            for place in (0, 2, "outside"):
                pipeline = pipeline_of(in_flight((instruction, {"place": place})))
                self.expect(None, resolve, self.program, pipeline, 0)
                self.expect(None, resolve, self.program, pipeline, 1)
                self.expect(None, resolve, self.program, pipeline, 1000)
        self.expect(None, resolve, self.program, pipeline_of(()), 0)

    def test_the_size_of_memory(self):
        for size in (1, 2, 16):
            program = program_of(memory=(0,) * size)
            for address in (0, 1, 15, 16):
                pipeline = pipeline_of(in_flight(("store", 1, 0, address)))
                place = address if address < size else "outside"
                self.expect(replaced(pipeline, 0, place=place), resolve, program, pipeline, 0)


class LoadTest(Case):
    def reads(self, word, pipeline, cache, index, config=TSO):
        """The readable word is this one, and the load can be loaded if there is one."""
        self.expect(word, readable_word, config, pipeline, cache, index)
        after = None if word is None else replaced(pipeline, index, result=word, time=6)
        self.expect(after, load, config, pipeline, cache, index, 6)

    def test_the_cache(self):
        for line_words in (1, 2):
            config = Config("tso", line_words=line_words)
            for state in ("shared", "exclusive", "modified"):
                cache = cache_of((1, state, (5, 6)[:line_words]))
                for address in range(4):
                    pipeline = pipeline_of(in_flight((("load", 3, 0, address), {"place": address})))
                    inside = address // line_words == 1
                    self.reads((5, 6)[address % line_words] if inside else None, pipeline, cache, 0, config)

    def test_the_store_buffer(self):
        buffer = (("store", 0, 5, 1), ("fence",), ("store", 0, 0, 2), ("store", 1, 7, 3), ("fence",))
        for cache in (EMPTY, cache_of((0, "modified", (9,)), (1, "shared", (9,)), (2, "shared", (8,)))):
            for address, word in ((0, 0), (1, 7), (2, 8 if cache[0] else None)):
                pipeline = pipeline_of(in_flight((("load", 3, 0, address), {"place": address})), buffer=buffer)
                self.reads(word, pipeline, cache, 0)

    def test_stores_in_flight(self):
        cache, buffer = cache_of((0, "shared", (9,))), (("store", 0, 8, 1),)
        for told, word in (({"result": 6}, 6), ({"result": 0}, 0), ({}, None)):
            entries = in_flight((("addi", 1, 0, 0), told), (STORE, {"place": 0}), (LOAD, {"place": 0}))
            self.reads(word, pipeline_of(entries, buffer=buffer, r1=7), cache, 2)
        self.reads(7, pipeline_of(in_flight((STORE, {"place": 0}), (LOAD, {"place": 0})), buffer=buffer, r1=7), cache,
                   1)
        self.reads(0, pipeline_of(in_flight((("store", 0, 0, 0), {"place": 0}), (LOAD, {"place": 0})), r1=7), cache, 1)
        # The operand is that of the store, also where a younger entry has the same destination.
        entries = in_flight((STORE, {"place": 0}), ("addi", 1, 0, 3), (LOAD, {"place": 0}))
        self.reads(7, pipeline_of(entries, r1=7), cache, 2)
        # It may be a predicted result.
        entries = in_flight((("load", 1, 0, 1), {"place": 1, "predicted": 4}), (STORE, {"place": 0}),
                            (LOAD, {"place": 0}))
        self.reads(4, pipeline_of(entries, r1=7), cache, 2)

    def test_the_youngest_older_store_to_the_address(self):
        stores = [(("store", number, 0, place), {"place": place}) for number, place in ((1, 0), (2, 0), (4, 1))]
        stores.append((("store", 4, 0, 9), {"place": "outside"}))
        load_entry = (LOAD, {"place": 0})
        for many, word in ((0, 8), (1, 5), (2, 6), (3, 6), (4, 6)):
            entries = in_flight(*stores[:many], load_entry, (STORE, {"place": 0}))
            self.reads(word, pipeline_of(entries, buffer=(("store", 0, 8, 1),), r1=5, r2=6, r4=7), EMPTY, many)
        # If the word of the youngest one is unknown, no other place is asked.
        entries = in_flight(*stores[:1], ("addi", 2, 0, 0), stores[1], load_entry)
        self.reads(None, pipeline_of(entries, buffer=(("store", 0, 8, 1),), r1=5), cache_of((0, "shared", (9,))), 3)

    def test_fences_before_the_load(self):
        cache = cache_of((0, "shared", (9,)))
        for kind in ("loads", "full", "stores", "slot"):
            pipeline = pipeline_of(in_flight(("fence", kind), ("addi", 1, 0, 0), (LOAD, {"place": 0})))
            if kind in ("loads", "full"):
                self.expect(9, readable_word, TSO, pipeline, cache, 2)
                self.expect(None, load, TSO, pipeline, cache, 2, 6)
            else:
                self.reads(9, pipeline, cache, 2)
            self.reads(9, pipeline_of(in_flight((LOAD, {"place": 0}), ("fence", kind))), cache, 0)

    def test_older_loads(self):
        cache = cache_of((0, "shared", (9,)), (1, "shared", (8,)))
        for place, told in ((0, {}), (0, {"predicted": 9}), (0, {"result": 9, "time": 3}), (1, {}), ("outside", {})):
            first = (("load", 4, 0, 7), dict(told, place=place))
            pipeline = pipeline_of(in_flight(first, (LOAD, {"place": 0})))
            if place == 0 and "result" not in told:
                self.expect(9, readable_word, TSO, pipeline, cache, 1)
                self.expect(None, load, TSO, pipeline, cache, 1, 6)
            else:
                self.reads(9, pipeline, cache, 1)

    def test_older_atomic_instructions(self):
        cache = cache_of((0, "modified", (9,)), (1, "shared", (8,)))
        for instruction in ATOMICS:
            for place, told in ((0, {}), (0, {"predicted": 9}), (1, {}), ("outside", {})):
                pipeline = pipeline_of(in_flight((instruction, dict(told, place=place)), (LOAD, {"place": 0})))
                if place == 0:
                    self.expect(9, readable_word, TSO, pipeline, cache, 1)
                    self.expect(None, load, TSO, pipeline, cache, 1, 6)
                else:
                    self.reads(9, pipeline, cache, 1)

    def test_younger_entries_do_not_hold_back(self):
        cache = cache_of((0, "modified", (9,)))
        for instruction in (("load", 4, 0, 0), ("swap", 4, 0, 0)):
            self.reads(9, pipeline_of(in_flight((LOAD, {"place": 0}), (instruction, {"place": 0}))), cache, 0)

    def test_what_cannot_be_loaded(self):
        cache = cache_of((0, "modified", (9,)))
        for place in (None, "outside"):
            self.reads(None, pipeline_of(in_flight((LOAD, {"place": place}))), cache, 0)
        for instruction in MEMORY[1:]:
            self.reads(None, pipeline_of(in_flight((instruction, {"place": 0}))), cache, 0)
        for instruction in (*COMPUTED, ("fence", "slot"), ("halt",), None):
            self.reads(None, pipeline_of((entry(0, instruction),)), cache, 0)
        for index in (1, 2, 1000):
            self.reads(None, pipeline_of(in_flight((LOAD, {"place": 0}))), cache, index)
        self.reads(None, pipeline_of(()), cache, 0)

    def test_a_load_that_is_ready(self):
        for result in (0, 8, 9):
            pipeline = pipeline_of(in_flight((LOAD, {"place": 0, "result": result, "time": 2})))
            self.expect(9, readable_word, TSO, pipeline, cache_of((0, "modified", (9,))), 0)
            self.expect(None, load, TSO, pipeline, cache_of((0, "modified", (9,))), 0, 6)

    def test_a_predicted_result(self):
        cache = cache_of((0, "modified", (9,)))
        for guess in (9, 8, 0):
            entries = in_flight(("addi", 1, 0, 0), (LOAD, {"place": 0, "predicted": guess}), ("addi", 4, 3, 0),
                                ("halt",))
            pipeline = pipeline_of(entries)
            after = replaced(pipeline, 1, result=9, time=0)
            self.expect(after if guess == 9 else cut(after, 2), load, TSO, pipeline, cache, 1, 0)
        cache = cache_of((0, "modified", (0,)))
        pipeline = pipeline_of(in_flight((LOAD, {"place": 0, "predicted": 0}), ("halt",)))
        self.expect(replaced(pipeline, 0, result=0, time=0), load, TSO, pipeline, cache, 0, 0)

    def test_the_same_under_all_orders(self):
        cache = cache_of((0, "shared", (9,)))
        for order in ORDERS:
            for time in (0, 1, 1000):
                pipeline = pipeline_of(in_flight((("load", 4, 0, 1), {"place": 1}), (("load", 0, 0, 0), {"place": 0})),
                                       link=1, held=True, r4=3)
                self.expect(replaced(pipeline, 1, result=9, time=time), load, CONFIGS[order], pipeline, cache, 1, time)


class FormTest(Case):
    """The functions take every pipeline of the form of [202], also one that no machine reaches."""

    code = (("load", 3, 1, 0), ("store", 3, 1, 0), ("swap", 3, 1, 2), ("fetch add", 1, 1, 2), ("load linked", 2, 1),
            ("store conditional", 1, 2, 3), ("add", 1, 2, 3), ("addi", 2, 1, 1), ("branch", "ltu", 1, 2, 3), ("jump",
                                                                                                              2),
            ("fence", "loads"), ("fence", "full"), ("fence", "stores"), ("fence", "slot"), ("load", 1, 0, 1), ("halt",))

    def random_entries(self, draw, pc, many):
        entries, resolved = [], True
        for _ in range(many):
            instruction = self.code[pc] if pc < len(self.code) else None
            name = instruction and instruction[0]
            told = {"successor": {"branch": draw.randrange(25), "jump": 2}.get(name)}
            if name in ("load", "swap", "fetch add", "load linked", "store conditional"):
                told["predicted"] = draw.choice((None, 0, 1, 2))
            if instruction in MEMORY or name in ("load", "store", "swap", "fetch add", "load linked",
                                                 "store conditional"):
                resolved = resolved and draw.random() < 0.8
                told["place"] = draw.choice((0, 1, 2, "outside")) if resolved else None
            if name in ("add", "addi", "branch", "jump") and draw.random() < 0.5:
                told["result"] = 0 if name in ("branch", "jump") else draw.randrange(3)
            if name == "load" and told["place"] in (0, 1, 2) and draw.random() < 0.5:
                told.update(result=draw.randrange(3), time=draw.randrange(9))
            entries.append(entry(pc, instruction, **told))
            pc = entries[-1][2]
        return entries

    def test_each_function_changes_one_entry_at_most(self):
        draw = random.Random(6)
        program = (self.code, (0,), (1, 2, 3))
        for _ in range(1500):
            pc = draw.randrange(18)
            entries = self.random_entries(draw, pc, draw.randrange(1, 6))
            pipeline = pipeline_of(entries, pc=pc, buffer=draw.choice(((), (("store", 1, 2, 3),))), r1=1,
                                   r2=draw.randrange(4))
            cache = cache_of(*[(line, "shared", (line,)) for line in range(3) if draw.random() < 0.6])
            index = draw.randrange(len(entries) + 1)
            config = Config(draw.choice(ORDERS), reorder_buffer=draw.randrange(5, 7))
            for function, arguments in ((execute, (pipeline, index)), (resolve, (program, pipeline, index)),
                                        (load, (config, pipeline, cache, index, 7)),
                                        (fetch, (program, config, pipeline, None, 5))):
                after = self.call(function, *arguments)
                if after is None:
                    continue
                self.assertEqual((after[0], *after[2:]), (pipeline[0], *pipeline[2:]))
                place = len(entries) if function == fetch else index
                self.assertEqual(after[1][:place], pipeline[1][:place])
                self.assertIn(after[1][place + 1:], ((), pipeline[1][place + 1:]))
                for older, younger in zip(after[1], after[1][1:]):
                    self.assertEqual(older[2], younger[0])


class StoryTest(Case):
    def test_the_example(self):
        code = (("addi", 1, 0, 5), ("store", 1, 0, 0), ("load", 2, 0, 0), ("halt",))
        program = (code, (0,), (0,))
        pipeline = start_pipeline(program, 0)
        for _ in range(3):
            pipeline = self.call(fetch, program, TSO, pipeline, None, None)
        self.expect(None, resolve, program, pipeline, 2)
        pipeline = self.call(resolve, program, self.call(resolve, program, pipeline, 1), 2)
        self.expect(None, load, TSO, pipeline, EMPTY, 2, 6)
        pipeline = self.call(load, TSO, self.call(execute, pipeline, 0), EMPTY, 2, 7)
        self.assertEqual(pipeline[1][2], (2, ("load", 2, 0, 0), 3, None, 5, 0, 7))
        self.assertEqual(pipeline[0], (0, registers(), False, -1))
