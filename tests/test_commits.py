"""Commit: [220] to [225]."""

from litmuscore.commits import commit, drain, keep_reservation, visible_word
from litmuscore.configs import Config
from litmuscore.pipelines import fetch, load, resolve, start_pipeline
from tests.flights import CONFIGS, EMPTY, TSO, cache_of, cut, entry, in_flight, pipeline_of
from tests.helpers import ORDERS, PLAIN, Case, registers

STRONG = ("sc", "tso", "pso")
OPERATIONS = ("add", "sub", "mul", "and", "or", "xor", "slt", "sltu")
MEMORY = (("load", 3, 1, 2), ("store", 3, 1, 2), ("swap", 3, 1, 2), ("fetch add", 3, 1, 2), ("load linked", 3, 1),
          ("store conditional", 3, 1, 2))
BUFFER = (("store", 1, 7, 3), ("fence",), ("store", 0, 8, 4))
STATES = ("shared", "exclusive", "modified")
YOUNGER = (("addi", 4, 3, 0), ("load", 5, 0, 0), ("halt",))


class Committing(Case):
    def commits(self, pipeline, state, *, order="tso", cache=EMPTY, after=None, choice=PLAIN, mark=None, buffer=None,
                held=None, left=None, time=6):
        """The oldest entry is committed with this state, and what is not told stays as it was."""
        _, entries, old_buffer, old_held, steps = pipeline
        entries = entries[1:] if left is None else left
        wanted = (state, entries, old_buffer if buffer is None else buffer, old_held if held is None else held,
                  steps + 1)
        self.expect((wanted, cache if after is None else after, choice, mark), commit, CONFIGS[order], pipeline, cache,
                    time)

    def waits(self, pipeline, *, order="tso", cache=EMPTY, config=None):
        """Committing is not possible."""
        for time in (0, 6):
            self.expect(None, commit, config or CONFIGS[order], pipeline, cache, time)


class PossibleTest(Committing):
    def test_without_an_entry(self):
        for order in ORDERS:
            for buffer in ((), BUFFER[:1]):
                self.waits(pipeline_of((), buffer=buffer), order=order)
                self.waits(pipeline_of((), buffer=buffer, halted=True), order=order)

    def test_under_sc_while_a_store_waits(self):
        cache = cache_of((0, "modified", (9,)))
        for part, state in (
            (("halt",), (0, registers(), True, -1)), (("fence", "slot"), (1, registers(), False, -1)),
            ((("addi", 1, 0, 5), {"result": 5}), (1, registers(r1=5), False, -1)),
            ((("store", 1, 0, 5), {"place": "outside"}), (0, registers(), True, -1)),
        ):
            pipeline = pipeline_of(in_flight(part), buffer=(("store", 0, 1, 2),))
            self.waits(pipeline, order="sc", cache=cache)
            for order in ("tso", "pso", "wmm"):
                self.commits(pipeline, state, order=order, cache=cache)
            self.commits(pipeline_of(in_flight(part)), state, order="sc", cache=cache)
        for part in ((("load", 1, 0, 0), {"place": 0, "result": 1, "time": 2}), (("store", 1, 0, 0), {"place": 0})):
            self.waits(pipeline_of(in_flight(part), buffer=(("store", 0, 1, 2),)), order="sc", cache=cache)

    def test_memory_instructions_that_are_not_resolved(self):
        cache = cache_of((0, "modified", (9,)))
        for order in ORDERS:
            for instruction in MEMORY:
                self.waits(pipeline_of(in_flight(instruction, ("halt",))), order=order, cache=cache)
                if instruction[0] != "store":
                    self.waits(pipeline_of(in_flight((instruction, {"predicted": 9}))), order=order, cache=cache)


class HaltTest(Committing):
    def test_halting(self):
        for order in ORDERS:
            for first in (entry(4, ("halt",)), entry(4, None)):
                for link, held in ((-1, False), (0, True), (2, False)):
                    younger = (entry(5, ("addi", 1, 0, 1), result=1), entry(6, ("halt",)))
                    pipeline = pipeline_of((first, *younger), pc=4, link=link, held=held, r1=7)
                    self.commits(pipeline, (4, registers(r1=7), True, link), order=order, left=())

    def test_places_outside_of_memory(self):
        for order in ORDERS:
            for instruction in MEMORY:
                for guess in (None, 7) if instruction[0] != "store" else (None,):
                    pipeline = pipeline_of(in_flight((instruction, {"place": "outside", "predicted": guess}), *YOUNGER),
                                           link=1, held=True, r3=5)
                    self.commits(pipeline, (0, registers(r3=5), True, 1), order=order, left=())

    def test_stores_may_still_wait(self):
        for order in ("tso", "pso", "wmm"):
            for part in (("halt",), (("swap", 1, 0, 0), {"place": "outside"})):
                pipeline = pipeline_of(in_flight(part), buffer=BUFFER)
                self.commits(pipeline, (0, registers(), True, -1), order=order)


class ComputedTest(Committing):
    def test_operations_and_addi(self):
        for order in ORDERS:
            for name in (*OPERATIONS, "addi"):
                for result in (0, 6, 65535):
                    pipeline = pipeline_of(in_flight(((name, 3, 1, 2), {"result": result}), *YOUNGER), link=2,
                                           held=True,
                                           r3=4, r4=5)
                    self.commits(pipeline, (1, registers(r3=result, r4=5), False, 2), order=order)

    def test_rd_zero(self):
        pipeline = pipeline_of(in_flight((("addi", 0, 0, 5), {"result": 5})), r1=3)
        self.commits(pipeline, (1, registers(r1=3), False, -1))

    def test_branches_and_jumps(self):
        for order in ORDERS:
            for instruction in (("branch", "eq", 1, 2, 9), ("jump", 9)):
                for successor in (9,) if instruction[0] == "jump" else (0, 1, 9, 24):
                    entries = (entry(3, instruction, successor, result=0), entry(successor, ("halt",)))
                    self.commits(pipeline_of(entries, pc=3, r1=5), (successor, registers(r1=5), False, -1), order=order)

    def test_entries_that_are_not_ready(self):
        for order in ORDERS:
            for instruction in (("add", 3, 1, 2), ("addi", 3, 1, 2), ("branch", "eq", 0, 0, 1), ("jump", 1)):
                self.waits(pipeline_of((entry(0, instruction, 1),)), order=order)


class FenceTest(Committing):
    state = (1, registers(r1=5), False, 2)

    def test_slot_and_loads(self):
        for order in ORDERS:
            for kind in ("slot", "loads"):
                for buffer in ((), BUFFER) if order != "sc" else ((),):
                    pipeline = pipeline_of(in_flight(("fence", kind), *YOUNGER), link=2, held=True, buffer=buffer, r1=5)
                    self.commits(pipeline, self.state, order=order)

    def test_stores(self):
        for order in ORDERS:
            for buffer, after in (((), ()), (BUFFER[:1], BUFFER[:2]), (BUFFER[:2], BUFFER[:2]),
                                  (BUFFER, BUFFER + (("fence",),))):
                if order != "sc" or buffer == ():
                    pipeline = pipeline_of(in_flight(("fence", "stores"), *YOUNGER), link=2, buffer=buffer, r1=5)
                    self.commits(pipeline, self.state, order=order, buffer=after)

    def test_full(self):
        for order in ORDERS:
            entries = in_flight(("fence", "full"), *YOUNGER)
            self.commits(pipeline_of(entries, link=2, r1=5), self.state, order=order)
            for buffer in (BUFFER[:1], BUFFER):
                self.waits(pipeline_of(entries, link=2, buffer=buffer, r1=5), order=order)


class LoadTest(Committing):
    def ready(self, result=5, *, rd=3, buffer=(), guess=None, **told):
        part = (("load", rd, 0, 0), {"place": 0, "result": result, "time": 4, "predicted": guess})
        return pipeline_of(in_flight(part, *YOUNGER), buffer=buffer, link=1, held=True, **told)

    def test_a_word_in_the_cache(self):
        for order in ORDERS:
            for state in STATES:
                for result in (5, 0):
                    cache = cache_of((1, "modified", (8,)), (0, state, (result,)))
                    self.commits(self.ready(result, r3=1), (1, registers(r3=result), False, 1), order=order,
                                 cache=cache,
                                 choice=(result, False), mark=4 if order == "wmm" else 6)

    def test_a_word_in_the_store_buffer(self):
        for order in ("tso", "pso", "wmm"):
            for cache in (EMPTY, cache_of((0, "shared", (9,)))):
                buffer = (("store", 0, 9, 1), ("store", 0, 5, 2), ("store", 1, 9, 3))
                self.commits(self.ready(buffer=buffer), (1, registers(r3=5), False, 1), order=order, cache=cache,
                             choice=(5, False), mark=4 if order == "wmm" else 6)

    def test_rd_zero(self):
        cache = cache_of((0, "shared", (5,)))
        for order in ORDERS:
            self.commits(self.ready(rd=0, r3=1), (1, registers(r3=1), False, 1), order=order, cache=cache,
                         choice=(5, False), mark=4 if order == "wmm" else 6)

    def test_an_unknown_visible_word(self):
        for cache in (EMPTY, cache_of((1, "shared", (5,)))):
            for order in STRONG:
                self.waits(self.ready(), order=order, cache=cache)
            self.commits(self.ready(), (1, registers(r3=5), False, 1), order="wmm", cache=cache, choice=(5, False),
                         mark=4)

    def test_a_load_that_is_not_ready(self):
        for order in ORDERS:
            for guess in (None, 5):
                pipeline = pipeline_of(in_flight((("load", 3, 0, 0), {"place": 0, "predicted": guess})))
                self.waits(pipeline, order=order, cache=cache_of((0, "modified", (5,))))

    def test_stale_loads(self):
        for order in ORDERS:
            for word in (4, 0, 65535):
                cache = cache_of((0, "shared", (word,)), (1, "modified", (3,)))
                pipeline = self.ready(r3=2)
                if order == "wmm":
                    self.commits(pipeline, (1, registers(r3=5), False, 1), order=order, cache=cache, choice=(5, False),
                                 mark=4)
                else:
                    self.expect((cut(pipeline, 0), cache, None, None), commit, CONFIGS[order], pipeline, cache, 6)

    def test_a_load_may_be_stale_because_of_the_store_buffer(self):
        cache, buffer = cache_of((0, "shared", (5,))), (("store", 0, 4, 1),)
        for order in ("tso", "pso"):
            pipeline = self.ready(buffer=buffer, r3=2)
            self.expect((cut(pipeline, 0), cache, None, None), commit, CONFIGS[order], pipeline, cache, 6)

    def test_a_predicted_result_does_not_matter(self):
        cache = cache_of((0, "shared", (5,)))
        for order in ORDERS:
            for guess in (5, 4, 0):
                self.commits(self.ready(guess=guess), (1, registers(r3=5), False, 1), order=order, cache=cache,
                             choice=(5, False), mark=4 if order == "wmm" else 6)

    def test_times(self):
        cache = cache_of((0, "shared", (5,)))
        for order in ORDERS:
            for time in (0, 1, 1000):
                self.commits(self.ready(), (1, registers(r3=5), False, 1), order=order, cache=cache, time=time,
                             choice=(5, False), mark=4 if order == "wmm" else time)


class StoreTest(Committing):
    def test_a_store_is_appended(self):
        for order in ORDERS:
            for buffer in ((), BUFFER[:1], BUFFER[:2]) if order != "sc" else ((),):
                for number, word in ((1, 5), (0, 0)):
                    pipeline = pipeline_of(in_flight((("store", number, 2, 0), {"place": 2}), *YOUNGER), buffer=buffer,
                                           link=1, held=True, r1=5, r2=2)
                    self.commits(pipeline, (1, registers(r1=5, r2=2), False, 1), order=order,
                                 buffer=buffer + (("store", 2, word, 9),))

    def test_the_number_of_steps(self):
        for steps in (0, 1, 30):
            pipeline = pipeline_of(in_flight((("store", 1, 0, 0), {"place": 0})), steps=steps, r1=5)
            self.commits(pipeline, (1, registers(r1=5), False, -1), buffer=(("store", 0, 5, steps),))

    def test_as_many_stores_as_the_configuration_lets(self):
        for most in (1, 2, 3):
            for order in ("tso", "pso", "wmm"):
                config = Config(order, store_buffer=most)
                for many in range(most + 1):
                    buffer = tuple(("store", 0, 1, step) for step in range(many))
                    pipeline = pipeline_of(in_flight((("store", 1, 0, 0), {"place": 0})), buffer=buffer)
                    if many == most:
                        self.waits(pipeline, config=config)
                    else:
                        after = (((1, registers(), False, -1), (), buffer + (("store", 0, 0, 9),), False, 10), EMPTY,
                                 PLAIN,
                                 None)
                        self.expect(after, commit, config, pipeline, EMPTY, 6)

    def test_fences_do_not_count(self):
        pipeline = pipeline_of(in_flight((("store", 1, 0, 0), {"place": 0})), buffer=BUFFER[:2])
        self.commits(pipeline, (1, registers(), False, -1), buffer=BUFFER[:2] + (("store", 0, 0, 9),))


class AtomicTest(Committing):
    def in_front(self, instruction, place=0, guess=None, **told):
        return pipeline_of(in_flight((instruction, {"place": place, "predicted": guess}), *YOUNGER), **told)

    def test_swap_and_fetch_add(self):
        for name, stored in (("swap", 5), ("fetch add", 2)):
            for order in ORDERS:
                for link, held in ((-1, False), (0, True), (2, False)):
                    pipeline = self.in_front((name, 3, 0, 1), link=link, held=held, r1=5, r3=7)
                    for state in ("exclusive", "modified"):
                        lines = (1, "shared", (6,)), (0, state, (65533,)), (2, "modified", (6,))
                        self.commits(pipeline, (1, registers(r1=5, r3=65533), False, link), order=order,
                                     cache=cache_of(*lines), after=cache_of(lines[0], (0, "modified", (stored,)),
                                                                            lines[2]),
                                     choice=(65533, False), mark=6)
                    for cache in (EMPTY, cache_of((0, "shared", (5,))), cache_of((1, "modified", (5,)))):
                        self.waits(pipeline, order=order, cache=cache)

    def test_rd_zero_and_rd_equal_to_rb(self):
        cache = cache_of((0, "modified", (4,)))
        self.commits(self.in_front(("swap", 0, 0, 1), r1=5), (1, registers(r1=5), False, -1), cache=cache,
                     after=cache_of((0, "modified", (5,))), choice=(4, False), mark=6)
        self.commits(self.in_front(("fetch add", 1, 0, 1), r1=5), (1, registers(r1=4), False, -1), cache=cache,
                     after=cache_of((0, "modified", (9,))), choice=(4, False), mark=6)
        self.commits(self.in_front(("swap", 1, 0, 0), r1=5), (1, registers(r1=4), False, -1), cache=cache,
                     after=cache_of((0, "modified", (0,))), choice=(4, False), mark=6)

    def test_load_linked(self):
        for order in ORDERS:
            for state in STATES:
                for link, held in ((-1, False), (0, True), (0, False), (2, True)):
                    for place, word in ((0, 4), (1, 0)):
                        cache = cache_of((0, state, (4,)), (1, state, (0,)))
                        pipeline = self.in_front(("load linked", 3, 2), place, link=link, held=held, r2=place, r3=7)
                        self.commits(pipeline, (1, registers(r2=place, r3=word), False, place), order=order,
                                     cache=cache,
                                     held=True, choice=(word, False), mark=6)
            for cache in (EMPTY, cache_of((1, "modified", (5,)))):
                self.waits(self.in_front(("load linked", 3, 0), link=1, held=True), order=order, cache=cache)
            self.commits(self.in_front(("load linked", 0, 0)), (1, registers(), False, 0), order=order, held=True,
                         cache=cache_of((0, "shared", (4,))), choice=(4, False), mark=6)

    def test_a_store_conditional_at_the_link(self):
        for order in ORDERS:
            pipeline = self.in_front(("store conditional", 3, 0, 1), link=0, held=True, r1=5, r3=7)
            for state in ("exclusive", "modified"):
                self.commits(pipeline, (1, registers(r1=5), False, -1), order=order, held=False, choice=(0, True),
                             mark=6,
                             cache=cache_of((0, state, (4,))), after=cache_of((0, "modified", (5,))))
            for cache in (EMPTY, cache_of((0, "shared", (4,))), cache_of((1, "modified", (4,)))):
                self.waits(pipeline, order=order, cache=cache)

    def test_any_other_store_conditional(self):
        for order in ORDERS:
            for place, link, held in ((0, 0, False), (0, 1, True), (0, 1, False), (1, 0, True), (0, -1, False)):
                pipeline = self.in_front(("store conditional", 3, 0, 1), place, link=link, held=held, r1=5, r3=7)
                for cache in (EMPTY, cache_of((0, "shared", (4,))), cache_of((0, "modified", (4,)), (1, "modified",
                                                                                                     (4,)))):
                    self.commits(pipeline, (1, registers(r1=5, r3=1), False, -1), order=order, held=False, cache=cache,
                                 mark=6)

    def test_a_store_conditional_with_rd_zero(self):
        cache = cache_of((0, "modified", (4,)))
        self.commits(self.in_front(("store conditional", 0, 0, 1), link=0, held=True, r1=5),
                     (1, registers(r1=5), False, -1), held=False, cache=cache, after=cache_of((0, "modified", (5,))),
                     choice=(0, True), mark=6)
        self.commits(self.in_front(("store conditional", 0, 0, 1), r1=5), (1, registers(r1=5), False, -1), cache=cache,
                     mark=6)

    def test_while_a_store_waits(self):
        cache = cache_of((0, "modified", (4,)))
        for order in ORDERS:
            for instruction in (("swap", 3, 0, 1), ("fetch add", 3, 0, 1), ("load linked", 3, 0),
                                ("store conditional", 3, 0, 1)):
                for link, held in ((0, True), (-1, False)):
                    for buffer in (BUFFER[:1], BUFFER):
                        self.waits(self.in_front(instruction, link=link, held=held, buffer=buffer), order=order,
                                   cache=cache)

    def test_predicted_results(self):
        cache = cache_of((0, "modified", (4,)))
        for rd in (3, 0):
            for instruction, told, word in (
                (("swap", rd, 0, 1), {}, 4), (("fetch add", rd, 0, 1), {}, 4), (("load linked", rd, 0), {}, 4),
                (("store conditional", rd, 0, 1), {"link": 0, "held": True}, 0), (("store conditional", rd, 0, 1), {},
                                                                                  1),
            ):
                for order in ORDERS:
                    for guess in (None, 0, 1, 4, 5):
                        pipeline = self.in_front(instruction, guess=guess, **told)
                        after = self.call(commit, CONFIGS[order], pipeline, cache, 6)
                        self.assertEqual(after[0][1], pipeline[1][1:] if guess in (None, word) else ())
                        self.assertEqual(after[0][4], 10)
                        self.assertEqual(after[0][0][1], registers(r3=word) if rd else registers())
                        self.assertEqual(after[3], 6)

    def test_lines_of_several_words(self):
        config = Config("tso", line_words=2)
        pipeline = self.in_front(("swap", 3, 2, 1), 3, r1=5, r2=3)
        cache = cache_of((0, "modified", (1, 2)), (1, "exclusive", (3, 4)))
        after, changed, choice, mark = self.call(commit, config, pipeline, cache, 6)
        self.assertEqual((changed, choice, mark),
                         (cache_of((0, "modified", (1, 2)), (1, "modified", (3, 5))), (4, False), 6))
        self.assertEqual(after[0][1], registers(r1=5, r2=3, r3=4))


class VisibleWordTest(Case):
    def test_visible_words(self):
        cache = cache_of((0, "shared", (9,)), (2, "modified", (0,)))
        for order in ORDERS:
            for buffer, words in (((), (9, None, 0, None)), (BUFFER, (8, 7, 0, None)),
                                  ((("store", 0, 3, 1), ("store", 0, 0, 2)), (0, None, 0, None))):
                for address, word in enumerate(words):
                    # Entries in flight do not matter.
                    entries = in_flight((("store", 1, 0, address), {"place": address}))
                    self.expect(word, visible_word, CONFIGS[order], pipeline_of(entries, buffer=buffer, r1=6), cache,
                                address)


class DrainTest(Case):
    def drains(self, order, pipeline, cache, index, left, after):
        """The store drains: what is left in the buffer, and the cache afterwards."""
        state, entries, buffer, held, steps = pipeline
        self.expect(((state, entries, left, held, steps), after, buffer[index][3]), drain, CONFIGS[order], pipeline,
                    cache,
                    index)

    def test_by_index_under_each_order(self):
        stores = (("store", 1, 7, 3), ("store", 0, 8, 4), ("store", 1, 9, 5), ("fence",), ("store", 2, 6, 8))
        lines = tuple((line, "modified", (0,)) for line in range(3))
        for order in ORDERS:
            pipeline = pipeline_of(in_flight(("halt",)), buffer=stores, link=1, held=True, r1=5)
            self.drains(order, pipeline, (lines, (), ()), 0, stores[1:], cache_of(lines[0], (1, "modified", (7,)),
                                                                                  lines[2]))
            if order in ("pso", "wmm"):
                self.drains(order, pipeline, (lines, (), ()), 1, stores[:1] + stores[2:],
                            cache_of((0, "modified", (8,)), *lines[1:]))
            else:
                self.expect(None, drain, CONFIGS[order], pipeline, (lines, (), ()), 1)
            for index in (2, 3, 4, 5, 1000):
                self.expect(None, drain, CONFIGS[order], pipeline, (lines, (), ()), index)

    def test_fences_at_the_beginning_are_removed(self):
        for order in ("tso", "pso", "wmm"):
            pipeline = pipeline_of((), buffer=BUFFER)
            cache = cache_of((1, "exclusive", (0,)))
            self.drains(order, pipeline, cache, 0, BUFFER[2:], cache_of((1, "modified", (7,))))
            self.drains(order, pipeline_of((), buffer=BUFFER[:2]), cache, 0, (), cache_of((1, "modified", (7,))))

    def test_what_the_core_can_write(self):
        for order in ORDERS:
            pipeline = pipeline_of((), buffer=(("store", 0, 7, 3),))
            for state in ("exclusive", "modified"):
                lines = (1, "shared", (1,)), (0, state, (2,)), (2, "shared", (3,))
                self.drains(order, pipeline, cache_of(*lines), 0, (),
                            cache_of(lines[0], (0, "modified", (7,)), lines[2]))
            for cache in (EMPTY, cache_of((0, "shared", (2,))), cache_of((1, "modified", (2,))), ((), ((0, True),), ()),
                          ((), (), ((0, (5,), True),))):
                self.expect(None, drain, CONFIGS[order], pipeline, cache, 0)

    def test_a_core_that_has_halted(self):
        for order in ORDERS:
            pipeline = pipeline_of((), halted=True, buffer=(("store", 0, 7, 3),), link=0, held=True)
            self.drains(order, pipeline, cache_of((0, "modified", (2,))), 0, (), cache_of((0, "modified", (7,))))

    def test_an_empty_buffer(self):
        for order in ORDERS:
            for index in (0, 1):
                self.expect(None, drain, CONFIGS[order], pipeline_of(in_flight(("halt",))),
                            cache_of((0, "modified", (2,))),
                            index)


class ReservationTest(Case):
    def test_kept_and_lost(self):
        for order in ORDERS:
            for held in (True, False):
                pipeline = pipeline_of(in_flight(("halt",)), link=2, held=held, buffer=BUFFER[:1], r1=5)
                lost = (*pipeline[:3], False, pipeline[4])
                for state in STATES:
                    self.expect(pipeline, keep_reservation, CONFIGS[order], pipeline, cache_of((2, state, (1,))))
                for cache in (EMPTY, cache_of((0, "modified", (1,))), ((), ((2, True),), ()),
                              ((), (), ((2, (1,), True),))):
                    self.expect(lost, keep_reservation, CONFIGS[order], pipeline, cache)

    def test_the_line_of_the_link(self):
        config = Config("tso", line_words=2)
        for link in range(4):
            pipeline = pipeline_of((), link=link, held=True)
            for line in (0, 1):
                kept = link // 2 == line
                self.expect((*pipeline[:3], kept, 9), keep_reservation, config, pipeline,
                            cache_of((line, "shared", (0, 0))))

    def test_without_a_link(self):
        for cache in (EMPTY, cache_of((0, "modified", (1,)))):
            pipeline = pipeline_of(in_flight(("halt",)), buffer=BUFFER)
            self.expect(pipeline, keep_reservation, TSO, pipeline, cache)

    def test_a_core_that_has_halted(self):
        pipeline = pipeline_of((), halted=True, link=0, held=True)
        self.expect((*pipeline[:3], False, 9), keep_reservation, TSO, pipeline, EMPTY)


class StoryTest(Case):
    def test_the_example(self):
        program = ((("load", 1, 0, 0), ("halt",)), (0,), (7,))
        pipeline = fetch(program, TSO, start_pipeline(program, 0), None, None)
        pipeline = load(TSO, resolve(program, pipeline, 0), cache_of((0, "shared", (7,))), 0, 3)
        for order, word, wanted in (("tso", 8, (None, None)), ("tso", 7, ((7, False), 9)), ("wmm", 8, ((7, False), 3))):
            after = self.call(commit, Config(order), pipeline, cache_of((0, "shared", (word,))), 9)
            self.assertEqual(after[2:], wanted)
