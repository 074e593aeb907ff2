"""Store buffers: [100] and [101]."""

from litmuscore.buffers import may_leave, newest_word, waiting, with_fence, without
from tests.helpers import ORDERS, Case

FENCE = ("fence",)


def store(address, word, *more):
    return ("store", address, word, *more)


class ReadingTest(Case):
    def test_how_many_stores_wait(self):
        self.expect(0, waiting, ())
        self.expect(0, waiting, (FENCE,))
        self.expect(2, waiting, (store(0, 1), FENCE, store(0, 1, 5), FENCE))

    def test_the_newest_word(self):
        buffer = (store(0, 5, 1), store(1, 6, 2), FENCE, store(0, 7, 4), FENCE)
        self.expect(7, newest_word, buffer, 0)
        self.expect(6, newest_word, buffer, 1)
        self.expect(None, newest_word, buffer, 2)
        self.expect(None, newest_word, (), 0)
        self.expect(None, newest_word, (FENCE, FENCE), 0)
        self.expect(0, newest_word, (store(3, 9), store(3, 0)), 3)


class FenceTest(Case):
    def test_into_a_buffer_in_which_no_store_waits(self):
        for buffer in ((), (FENCE,), (FENCE, FENCE)):
            self.expect(buffer, with_fence, buffer)

    def test_behind_a_store(self):
        for buffer in ((store(0, 1),), (store(0, 1), FENCE, store(1, 1)), (FENCE, store(0, 1, 7))):
            self.expect(buffer + (FENCE,), with_fence, buffer)

    def test_behind_a_fence(self):
        for buffer in ((store(0, 1), FENCE), (store(0, 1), FENCE, FENCE), (store(0, 1), FENCE, store(1, 1, 3), FENCE)):
            self.expect(buffer, with_fence, buffer)


class LeavingTest(Case):
    def leaving(self, order, buffer):
        """The indices, also some behind the end, whose entries may leave."""
        return [index for index in range(len(buffer) + 3) if self.call(may_leave, order, buffer, index)]

    def test_an_empty_buffer_and_indices_behind_the_end(self):
        for order in ORDERS:
            self.assertEqual(self.leaving(order, ()), [])
            self.expect(False, may_leave, order, (store(0, 1),), 1)
            self.expect(False, may_leave, order, (store(0, 1),), 1000)

    def test_stores_to_different_addresses(self):
        for buffer in ((store(0, 1), store(1, 1), store(2, 1)), (store(0, 1, 4), store(1, 1, 5), store(2, 1, 9))):
            for order, wanted in (("sc", [0]), ("tso", [0]), ("pso", [0, 1, 2]), ("wmm", [0, 1, 2])):
                self.assertEqual(self.leaving(order, buffer), wanted)

    def test_stores_to_the_same_address(self):
        buffer = (store(0, 1), store(1, 1), store(0, 2), store(2, 1), store(1, 1))
        for order, wanted in (("sc", [0]), ("tso", [0]), ("pso", [0, 1, 3]), ("wmm", [0, 1, 3])):
            self.assertEqual(self.leaving(order, buffer), wanted)

    def test_fences(self):
        for buffer, wanted in (
            ((FENCE, store(0, 1)), []),
            ((store(0, 1), FENCE, store(1, 1)), [0]),
            ((store(0, 1), FENCE, FENCE, store(1, 1)), [0]),
            ((store(0, 1), FENCE), [0]),
            ((FENCE,), []),
        ):
            for order in ORDERS:
                self.assertEqual(self.leaving(order, buffer), wanted)
        buffer = (store(0, 1), store(1, 1), FENCE, store(2, 1))
        for order, wanted in (("sc", [0]), ("tso", [0]), ("pso", [0, 1]), ("wmm", [0, 1])):
            self.assertEqual(self.leaving(order, buffer), wanted)


class LeftTest(Case):
    def test_the_entry_is_removed(self):
        buffer = (store(0, 1), store(1, 2), store(2, 3, 9))
        self.expect(buffer[1:], without, buffer, 0)
        self.expect((buffer[0], buffer[2]), without, buffer, 1)
        self.expect(buffer[:2], without, buffer, 2)
        self.expect((), without, (store(0, 1),), 0)

    def test_fences_at_the_beginning_are_removed(self):
        self.expect((), without, (store(0, 1), FENCE), 0)
        self.expect((), without, (store(0, 1), FENCE, FENCE), 0)
        self.expect((store(1, 1), FENCE), without, (store(0, 1), FENCE, FENCE, store(1, 1), FENCE), 0)
        self.expect((store(1, 1),), without, (FENCE, store(0, 1), FENCE, store(1, 1)), 1)
        self.expect((store(0, 1),), without, (FENCE, store(0, 1), store(1, 1)), 2)

    def test_fences_elsewhere_stay(self):
        buffer = (store(0, 1), FENCE, store(1, 1), FENCE, FENCE)
        self.expect((store(0, 1), FENCE, FENCE, FENCE), without, buffer, 2)
        self.expect((store(1, 1), FENCE, FENCE), without, buffer, 0)

    def test_a_store_that_may_not_leave(self):
        self.expect((store(0, 1), FENCE), without, (store(0, 1), FENCE, store(0, 2)), 2)

    def test_the_example_of_the_document(self):
        buffer = (("store", 2, 1), ("store", 3, 2), ("fence",), ("store", 4, 1))
        self.expect(True, may_leave, "pso", buffer, 1)
        self.expect(False, may_leave, "tso", buffer, 1)
        self.expect(False, may_leave, "pso", buffer, 3)
        self.expect((("store", 4, 1),), without, without(buffer, 1), 0)
