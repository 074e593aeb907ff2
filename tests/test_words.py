"""Words, operations and relations: [20] to [22]."""

from litmuscore.words import compare, operate, signed
from tests.helpers import Case

EDGES = (0, 1, 32767, 32768, 65534, 65535)
AS_SIGNED = {0: 0, 1: 1, 32767: 32767, 32768: -32768, 65534: -2, 65535: -1}


class SignedTest(Case):
    def test_edges(self):
        for word in EDGES:
            self.expect(AS_SIGNED[word], signed, word)


class OperateTest(Case):
    def test_results_modulo_65536(self):
        self.expect(8, operate, "add", 3, 5)
        self.expect(0, operate, "add", 65535, 1)
        self.expect(65534, operate, "add", 65535, 65535)
        self.expect(32768, operate, "add", 32767, 1)
        self.expect(65534, operate, "sub", 3, 5)
        self.expect(2, operate, "sub", 5, 3)
        self.expect(1, operate, "sub", 0, 65535)
        self.expect(15, operate, "mul", 3, 5)
        self.expect(1, operate, "mul", 65535, 65535)
        self.expect(0, operate, "mul", 32768, 2)

    def test_bit_by_bit(self):
        self.expect(8, operate, "and", 12, 10)
        self.expect(14, operate, "or", 12, 10)
        self.expect(6, operate, "xor", 12, 10)
        self.expect(32768, operate, "and", 65535, 32768)
        self.expect(65535, operate, "or", 32767, 32768)
        self.expect(32767, operate, "xor", 65535, 32768)

    def test_comparing_operations_at_all_edges(self):
        for left in EDGES:
            for right in EDGES:
                self.expect(1 if AS_SIGNED[left] < AS_SIGNED[right] else 0, operate, "slt", left, right)
                self.expect(1 if left < right else 0, operate, "sltu", left, right)

    def test_where_reading_as_signed_makes_a_difference(self):
        self.expect(1, operate, "slt", 65535, 0)
        self.expect(0, operate, "sltu", 65535, 0)
        self.expect(0, operate, "slt", 32767, 32768)
        self.expect(1, operate, "sltu", 32767, 32768)
        self.expect(0, operate, "slt", 7, 7)
        self.expect(0, operate, "sltu", 7, 7)

    def test_every_result_is_a_word(self):
        for operation in ("add", "sub", "mul", "and", "or", "xor", "slt", "sltu"):
            for left in EDGES:
                for right in EDGES:
                    self.assertIn(self.call(operate, operation, left, right), range(65536))


class CompareTest(Case):
    def test_all_relations_at_all_edges(self):
        for left in EDGES:
            for right in EDGES:
                self.expect(left == right, compare, "eq", left, right)
                self.expect(left != right, compare, "ne", left, right)
                self.expect(AS_SIGNED[left] < AS_SIGNED[right], compare, "lt", left, right)
                self.expect(AS_SIGNED[left] >= AS_SIGNED[right], compare, "ge", left, right)
                self.expect(left < right, compare, "ltu", left, right)
                self.expect(left >= right, compare, "geu", left, right)

    def test_where_reading_as_signed_makes_a_difference(self):
        self.expect(True, compare, "lt", 32768, 32767)
        self.expect(False, compare, "ltu", 32768, 32767)
        self.expect(False, compare, "ge", 65535, 1)
        self.expect(True, compare, "geu", 65535, 1)
