"""Writing the texts of tests: [344], [345]."""

import random

from litmuscore.errors import TextError
from litmuscore.printer import show_test
from litmuscore.reader import read_test
from litmuscore.tokens import tokens_of
from tests.helpers import Case
from tests.texts import drawn_test

PROGRAM = ((), (0, 24), (7, 65535))
OBSERVED = (("register", 0, 1), ("word", 1), ("register", 1, 7))
A, B, C, D = ("equals", 0, 0), ("equals", 1, 65535), ("equals", 2, 3), ("equals", 0, 9)
TEXTS = {"A": "0:r1 = 0", "B": "[1] = 65535", "C": "1:r7 = 3", "D": "0:r1 = 9"}


def chain(name, many):
    """A condition of so many parts, joined to the left."""
    condition = A
    for _ in range(many - 1):
        condition = (name, condition, A)
    return condition


class PrinterTest(Case):
    def shows(self, text, condition, claim="exists"):
        """The condition is written so, and is read as the same."""
        for name, told in TEXTS.items():
            text = text.replace(name, told)
        test = (PROGRAM, OBSERVED, claim, condition)
        wanted = f"memory 7 65535\nstart 0 24\nobserve 0:r1 [1] 1:r7\n{claim} {text}\n"
        self.expect(wanted, show_test, test)
        self.expect(test, read_test, wanted)
        return wanted

    def test_lines(self):
        code = (("add", 1, 2, 3), ("addi", 0, 7, 65535), ("load", 1, 0, 0), ("store", 1, 0, 5), ("swap", 1, 2, 3),
                ("fetch add", 4, 5, 6), ("load linked", 7, 0), ("store conditional", 1, 2, 3), ("fence", "slot"),
                ("fence", "stores"), ("branch", "ltu", 1, 2, 24), ("jump", 0), ("halt",), ("sltu", 0, 0, 0))
        test = ((code, (0, 13), (1, 2, 3)), (("word", 2), ("register", 1, 0)), "always", ("equals", 1, 12))
        text = ("memory 1 2 3\nstart 0 13\nadd r1 r2 r3\naddi r0 r7 65535\nload r1 r0 0\nstore r1 r0 5\nswap r1 r2 r3\n"
                "fetch-add r4 r5 r6\nload-linked r7 r0\nstore-conditional r1 r2 r3\nfence slot\nfence stores\n"
                "branch ltu r1 r2 24\njump 0\nhalt\nsltu r0 r0 r0\nobserve [2] 1:r0\nalways 1:r0 = 12\n")
        self.expect(text, show_test, test)
        self.expect(test, read_test, text)

    def test_the_shortest_test(self):
        test = (((), (0,), (0,)), (("word", 0),), "never", ("equals", 0, 0))
        self.expect("memory 0\nstart 0\nobserve [0]\nnever [0] = 0\n", show_test, test)

    def test_claims(self):
        for claim in ("exists", "never", "always"):
            self.shows("A", A, claim)

    def test_each_form_of_condition(self):
        for text, condition in (
            ("A", A), ("B", B), ("C", C), ("not A", ("not", A)), ("not not A", ("not", ("not", A))),
            ("A and B", ("and", A, B)), ("A or B", ("or", A, B)),
            ("not (A and B)", ("not", ("and", A, B))), ("not (A or B)", ("not", ("or", A, B))),
            ("not A and B", ("and", ("not", A), B)), ("A and not B", ("and", A, ("not", B))),
            ("not A or not B", ("or", ("not", A), ("not", B))),
            ("A and B and C", ("and", ("and", A, B), C)), ("A and (B and C)", ("and", A, ("and", B, C))),
            ("A or B or C", ("or", ("or", A, B), C)), ("A or (B or C)", ("or", A, ("or", B, C))),
            ("A and B or C", ("or", ("and", A, B), C)), ("A or B and C", ("or", A, ("and", B, C))),
            ("(A or B) and C", ("and", ("or", A, B), C)), ("A and (B or C)", ("and", A, ("or", B, C))),
            ("A and B or C and D", ("or", ("and", A, B), ("and", C, D))),
            ("(A or B) and (C or D)", ("and", ("or", A, B), ("or", C, D))),
            ("A or B and C or D", ("or", ("or", A, ("and", B, C)), D)),
            ("A or (B or C and D)", ("or", A, ("or", B, ("and", C, D)))),
            ("A or B and (C and D)", ("or", A, ("and", B, ("and", C, D)))),
            ("not (A or B) and C", ("and", ("not", ("or", A, B)), C)),
            ("not not (A and B)", ("not", ("not", ("and", A, B)))),
            ("not (not A and (B or not (C or D)))",
             ("not", ("and", ("not", A), ("or", B, ("not", ("or", C, D)))))),
            ("((A or B) and C or D) and A", ("and", ("or", ("and", ("or", A, B), C), D), A)),
        ):
            self.needs_its_parentheses(self.shows(text, condition), condition)

    def needs_its_parentheses(self, text, condition):
        """Without any one pair of its parentheses, the text is not read as the same test."""
        opened = []
        for place, character in enumerate(text):
            if character == "(":
                opened.append(place)
            if character == ")":
                first = opened.pop()
                without = text[:first] + " " + text[first + 1:place] + " " + text[place + 1:]
                try:
                    self.assertNotEqual(read_test(without)[3], condition, text)
                except TextError:
                    pass

    def test_random_tests(self):
        draw = random.Random(121)
        shown = 0
        for _ in range(500):
            test = drawn_test(draw)
            text = self.call(show_test, test)
            if text is None:
                continue
            shown += 1
            self.expect(test, read_test, text)
            self.needs_its_parentheses(text, test[3])
            self.assertTrue(text.endswith("\n"))
            for line in text[:-1].split("\n"):
                self.assertGreater(len(tokens_of(line)), 0)
                self.assertEqual(line.replace("( ", "(").replace(" )", ")").strip(), line)
                self.assertNotIn("  ", line)
        self.assertGreater(shown, 300)

    def test_60_tokens_and_61(self):
        # The claim, 9 parts of 5 tokens and 8 words between them: 54 tokens; and one for each "not".
        for name in ("and", "or"):
            for many, nots in ((9, 6), (9, 7), (10, 0), (10, 1), (11, 0)):
                condition = chain(name, many)
                text = f" {name} ".join(["A"] * many)
                for _ in range(nots):
                    # The first part alone becomes longer.
                    condition = self.with_not(condition)
                tokens = 1 + 5 * many + many - 1 + nots
                if tokens <= 60:
                    line = self.shows("not " * nots + text, condition).split("\n")[3]
                    self.assertEqual(len(tokens_of(line)), tokens)
                else:
                    self.expect(None, show_test, (PROGRAM, OBSERVED, "never", condition))

    def with_not(self, condition):
        if condition[0] in ("and", "or"):
            return (condition[0], self.with_not(condition[1]), condition[2])
        return ("not", condition)

    def test_parentheses_and_the_claim_are_tokens(self):
        # 54 tokens of the chain, "not", two parentheses, and "not" again.
        for nots, tokens in ((1, 57), (4, 60), (5, 61)):
            condition = chain("or", 9)
            for _ in range(nots):
                condition = ("not", condition)
            self.assertEqual(54 + 2 + nots, tokens)
            if tokens <= 60:
                self.shows("not " * nots + "(" + " or ".join(["A"] * 9) + ")", condition)
            else:
                self.expect(None, show_test, (PROGRAM, OBSERVED, "never", condition))

    def test_deep_and_large_conditions(self):
        for many in (60, 100):
            condition = A
            for _ in range(many - 1):
                condition = ("not", condition)
            self.expect(None, show_test, (PROGRAM, OBSERVED, "never", condition))
            self.expect(None, show_test, (PROGRAM, OBSERVED, "never", chain("and", many)))

    def test_the_example(self):
        text = ("memory 0 0\nstart 0 2 ; two cores\nstore r1 r0 1\nhalt\nload r2 r0 1\nhalt\nobserve 1:r2\n"
                "never not(1:r2=0)")
        self.expect("memory 0 0\nstart 0 2\nstore r1 r0 1\nhalt\nload r2 r0 1\nhalt\nobserve 1:r2\n"
                    "never not 1:r2 = 0\n", show_test, read_test(text))
