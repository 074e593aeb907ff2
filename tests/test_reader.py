"""Reading the texts of tests: [340] to [343], [345]."""

import random

from litmuscore.errors import TextError
from litmuscore.printer import show_test
from litmuscore.reader import read_test
from tests.helpers import Case
from tests.texts import FENCES, LINES, OPERATIONS, RELATIONS, Finder, drawn_test

HEAD = ("memory 5 6", "start 0 1 24")
TAIL = ("observe 0:r1 2:r7 [1]", "never [1] = 0")


def text_of(*instructions, head=HEAD, tail=TAIL):
    return "\n".join((*head, *instructions, *tail))


class Reading(Case):
    def reads(self, test, text):
        self.expect(test, read_test, text)

    def wrong(self, line, column, text):
        """The text has its error at this place; another way to find it agrees."""
        self.assertEqual(Finder(text).place(), (line, column), text)
        self.refuse(TextError, {"line": line, "column": column}, read_test, text)

    def code(self, *lines):
        return self.call(read_test, text_of(*lines))[0][0]


class FormTest(Reading):
    def test_the_lines(self):
        self.reads((((), (0,), (0,)), (("word", 0),), "exists", ("equals", 0, 0)),
                   "memory 0\nstart 0\nobserve [0]\nexists [0] = 0")
        self.reads(((( ("halt",), ("jump", 24)), (0, 1, 24), (5, 6)),
                    (("register", 0, 1), ("register", 2, 7), ("word", 1)), "never", ("equals", 2, 0)),
                   text_of("halt", "jump 24"))

    def test_memory_and_start_lines(self):
        for words in ((0,), (65535,), (1, 10, 100, 1000, 10000), tuple(range(100, 116))):
            for entries in ((0,), (24,), (24, 0, 10, 9)):
                lines = (" ".join(("memory", *map(str, words))), " ".join(("start", *map(str, entries))))
                text = text_of(head=lines, tail=("observe [0]", "always [0]=1"))
                self.reads((((), entries, words), (("word", 0),), "always", ("equals", 0, 1)), text)

    def test_each_instruction(self):
        for operation in OPERATIONS:
            self.assertEqual(self.code(f"{operation} r1 r2 r7"), ((operation, 1, 2, 7),))
        for line, instruction in (
            ("addi r0 r1 65535", ("addi", 0, 1, 65535)), ("load r2 r3 0", ("load", 2, 3, 0)),
            ("store r1 r0 5", ("store", 1, 0, 5)), ("swap r4 r5 r6", ("swap", 4, 5, 6)),
            ("fetch-add r1 r2 r3", ("fetch add", 1, 2, 3)), ("load-linked r7 r6", ("load linked", 7, 6)),
            ("store-conditional r3 r2 r1", ("store conditional", 3, 2, 1)), ("jump 0", ("jump", 0)),
            ("branch eq r1 r2 7", ("branch", "eq", 1, 2, 7)), ("halt", ("halt",)),
        ):
            self.assertEqual(repr(self.code(line)), repr((instruction,)))
        for kind in FENCES:
            self.assertEqual(self.code(f"fence {kind}"), (("fence", kind),))
        for relation in RELATIONS:
            self.assertEqual(self.code(f"branch {relation} r0 r7 24"), (("branch", relation, 0, 7, 24),))
        for number in range(8):
            self.assertEqual(self.code(f"load-linked r{number} r{7 - number}"), (("load linked", number, 7 - number),))

    def test_as_many_instructions_as_there_may_be(self):
        for many in (0, 1, 23, 24):
            lines = [f"jump {number}" for number in range(many)]
            self.assertEqual(self.code(*lines), tuple(("jump", number) for number in range(many)))

    def test_observables(self):
        observed = tuple(("register", core, number) for core in (2, 0, 1) for number in (7, 0, 3)) + (
            ("word", 1), ("word", 0), ("register", 1, 1))
        line = "observe 2:r7 2:r0 2:r3 0:r7 0:r0 0:r3 1:r7 1:r0 1:r3 [1] [0] 1:r1"
        test = self.call(read_test, text_of(tail=(line, "always 1:r1=65535")))
        self.assertEqual((test[1], test[3]), (observed, ("equals", 11, 65535)))
        test = self.call(read_test, text_of(tail=("observe [ 1 ] 0 : r5", "always 0 :r5 = 1")))
        self.assertEqual((test[1], test[3]), ((("word", 1), ("register", 0, 5)), ("equals", 1, 1)))

    def condition(self, text):
        return self.call(read_test, text_of(tail=(TAIL[0], "exists " + text)))[3]

    def test_conditions(self):
        a, b, c, d = ("equals", 0, 1), ("equals", 1, 2), ("equals", 2, 3), ("equals", 0, 4)
        texts = {"A": "0:r1 = 1", "B": "2:r7=2", "C": "[1] = 3", "D": "0:r1=4"}
        for text, condition in (
            ("A", a), ("(A)", a), ("((A))", a), ("not A", ("not", a)), ("not not A", ("not", ("not", a))),
            ("not(A)", ("not", a)), ("A and B", ("and", a, b)), ("A or B", ("or", a, b)),
            ("A or B or C", ("or", ("or", a, b), c)), ("A and B and C", ("and", ("and", a, b), c)),
            ("A or (B or C)", ("or", a, ("or", b, c))), ("A and (B and C)", ("and", a, ("and", b, c))),
            ("A or B and C", ("or", a, ("and", b, c))), ("A and B or C", ("or", ("and", a, b), c)),
            ("(A or B) and C", ("and", ("or", a, b), c)), ("A and (B or C)", ("and", a, ("or", b, c))),
            ("not A and B", ("and", ("not", a), b)), ("not (A and B)", ("not", ("and", a, b))),
            ("A and not B", ("and", a, ("not", b))), ("not A or not B", ("or", ("not", a), ("not", b))),
            ("A or B and C or D", ("or", ("or", a, ("and", b, c)), d)),
            ("A and B or C and D", ("or", ("and", a, b), ("and", c, d))),
            ("not(not(A or B)and C)", ("not", ("and", ("not", ("or", a, b)), c))),
            ("A or B or C or D", ("or", ("or", ("or", a, b), c), d)),
        ):
            for name, told in texts.items():
                text = text.replace(name, told)
            self.assertEqual(self.condition(text), condition)

    def test_deep_conditions(self):
        # 60 tokens: the claim, and either 54 times "not" or 27 pairs of parentheses.
        condition = ("equals", 0, 7)
        for _ in range(54):
            condition = ("not", condition)
        self.assertEqual(self.condition("not " * 54 + "0:r1=7"), condition)
        self.assertEqual(self.condition("(" * 27 + "0:r1=7" + ")" * 27), ("equals", 0, 7))

    def test_spaces_semicolons_and_lines_without_tokens(self):
        plain = text_of("store r1 r0 5", "halt")
        test = read_test(plain)
        for text in (
            plain + "\n", plain + "\n\n\n", "\n\n" + plain, plain.replace("\n", "\n\n"), plain.replace("\n", " ; x\n"),
            plain.replace("\n", "\n  ;;; AB_C memory 0\n"), plain.replace(" ", "   ").replace("\n", "  \n   "),
            ";\n \n" + plain + "   \n;", plain + ";", plain + " ; never", plain.replace(" = ", "="),
            plain.replace(":", " : ").replace("[", "[ "), plain.replace("\n", ";\n"),
        ):
            self.reads(test, text)

    def test_names_of_registers_and_words_stand_for_nothing_else(self):
        # The names of operations are conditions, too, and the other way round.
        self.assertEqual(self.code("and r1 r2 r3", "or r1 r2 r3"), (("and", 1, 2, 3), ("or", 1, 2, 3)))

    def test_the_example(self):
        text = ("memory 0 0\nstart 0 2 ; two cores\nstore r1 r0 1\nhalt\nload r2 r0 1\nhalt\nobserve 1:r2\n"
                "never not(1:r2=0)")
        code = (("store", 1, 0, 1), ("halt",), ("load", 2, 0, 1), ("halt",))
        self.reads(((code, (0, 2), (0, 0)), (("register", 1, 2),), "never", ("not", ("equals", 0, 0))), text)
        self.wrong(2, 9, "memory 0\nstart 0 25")


class ErrorTest(Reading):
    def test_texts_that_end_too_early(self):
        self.wrong(2, 1, "")
        self.wrong(2, 1, "memory 0")
        self.wrong(3, 1, "memory 0\n")
        self.wrong(3, 1, "\n")
        self.wrong(4, 1, "; a\n  \n ; b")
        self.wrong(3, 1, "memory 0\nstart 0")
        self.wrong(4, 1, "memory 0\nstart 0\nhalt")
        self.wrong(4, 1, "memory 0\nstart 0\nobserve [0]")
        self.wrong(6, 1, "memory 0\nstart 0\nobserve [0]\n\n")
        self.wrong(27, 1, "\n".join(("memory 0", "start 0") + ("halt",) * 24))

    def test_the_first_token_of_a_line(self):
        for line in ("start 0", "halt", "observe [0]", "never", "5", "(", "memory1", "memor", "r0"):
            self.wrong(1, 1, line)
            self.wrong(3, 3, "\n; memory 0\n  " + line)
        for line in ("memory 0", "halt", "observe", "0", "=", "starts 0"):
            self.wrong(2, 1, "memory 0\n" + line)
        for line in ("memory 0", "start 0", "exists [0] = 0", "never", "r1", "5", ":", "fetch add r1 r2 r3", "fetch",
                     "nop", "loads", "eq", "store-conditional- r1 r2 r3", "not", "observed"):
            self.wrong(3, 2, "memory 0\nstart 0\n " + line)
            self.wrong(4, 2, "memory 0\nstart 0\nhalt\n " + line)
        for line in ("halt", "observe [0]", "memory 0", "not [0] = 0", "[0] = 0", "0:r1=0", "sometimes"):
            self.wrong(4, 1, "memory 0\nstart 0\nobserve [0]\n" + line)

    def test_memory_lines(self):
        self.wrong(1, 7, "memory")
        self.wrong(1, 10, "memory   ")
        self.wrong(1, 15, "memory ; empty")
        self.wrong(1, 8, "memory x")
        self.wrong(1, 7, "memory:0")
        self.wrong(1, 8, "memory 65536")
        self.wrong(1, 10, "memory 0 00")
        self.wrong(1, 10, "memory 0 01")
        for many in (6, 1500, 5000):
            self.wrong(1, 10, "memory 0 " + "9" * many)
        self.wrong(1, 10, "memory 1 0065535")
        self.wrong(1, 9, "memory 5r0")
        self.wrong(1, 8 + 2 * 16, "memory " + "1 " * 17)
        self.wrong(1, 8 + 2 * 16, "memory " + "1 " * 16 + "x")

    def test_start_lines(self):
        self.wrong(2, 6, "memory 0\nstart")
        self.wrong(2, 7, "memory 0\nstart 25")
        self.wrong(2, 7, "memory 0\nstart 024")
        self.wrong(2, 9, "memory 0\nstart 0 r0")
        self.wrong(2, 15, "memory 0\nstart 0 1 2 3 4")
        self.wrong(2, 15, "memory 0\nstart 0 1 2 3 ]")
        self.wrong(2, 9, "memory 0\nstart 0 100000000000000000000")

    def test_instruction_lines(self):
        for line, column in (
            ("add", 4), ("add r1", 7), ("add r1 r2", 10), ("add r1 r2 3", 11), ("add r1 r2 r3 r4", 14),
            ("add r8 r1 r2", 5),
            ("add r1 r2 r10", 11), ("add r1 r2 r3 ;", 99), ("add 1 r2 r3", 5), ("add r1 r r3", 8), ("add r1 r2r3", 8),
            ("addi r1 r2 r3", 12), ("addi r1 r2 65536", 12), ("addi r1 r2 05", 12), ("addi r1 r2", 11),
            ("addi r1 r2 3 4", 14), ("load r1 5", 9), ("load r1 r2 5 r3", 14), ("store r1 r2", 12),
            ("store 5 r1 r2", 7),
            ("swap r1 r2 5", 12), ("fetch-add r1 r2", 16), ("load-linked r1", 15), ("load-linked r1 r2 r3", 19),
            ("load-linked r1 r2 0", 19), ("store-conditional r1 r2", 24), ("fence", 6), ("fence half", 7),
            ("fence full full", 12), ("fence 0", 7), ("fence Loads", 7), ("branch", 7), ("branch gt r1 r2 3", 8),
            ("branch r1 r2 3", 8), ("branch eq r1 r2", 16), ("branch eq r1 r2 25", 17), ("branch eq r1 3 r2", 14),
            ("branch eq r1 r2 r3", 17), ("branch eq r1 r2 3 4", 19), ("jump", 5), ("jump 25", 6), ("jump 00", 6),
            ("jump r1", 6), ("jump 3 3", 8), ("halt 0", 6), ("halt halt", 6), ("halt:", 5), ("add = r1 r2", 5),
        ):
            if column != 99:
                self.wrong(3, column, text_of(line))
                self.wrong(5, column + 2, text_of("halt", "", "  " + line))
        self.assertEqual(self.code("add r1 r2 r3 ;"), (("add", 1, 2, 3),))

    def test_the_25th_instruction_line(self):
        lines = ["jump 0"] * 24
        for line, column in (("halt", 1), ("  jump 0", 3), ("nonsense", 1), ("   =", 4), ("never [1] = 0", 1)):
            self.wrong(27, column, text_of(*lines, line))
        self.wrong(27, 1, text_of(*lines, tail=("exists [0] = 0",)))

    def test_observe_lines(self):
        for line, column in (
            ("observe", 8), ("observe  ", 10), ("observe x", 9), ("observe r1", 9), ("observe :", 9),
            ("observe 3:r1", 9),
            ("observe 00:r1", 9), ("observe 0", 10), ("observe 0 r1", 11), ("observe 0:", 11), ("observe 0:r8", 11),
            ("observe 0:1", 11), ("observe 0=r1", 10), ("observe [2]", 10), ("observe [01]", 10), ("observe []", 10),
            ("observe [r1]", 10), ("observe [", 10), ("observe [1", 11), ("observe [1)", 11), ("observe [1:", 11),
            ("observe 0:r1 0:r1", 14), ("observe [1] 0:r1  [ 1 ]", 19), ("observe 0:r1 1:r1 0 : r1", 19),
            ("observe 0:r1 0:r1 x", 14), ("observe 0:r1 0:r", 16), ("observe 0:r1 ]", 14), ("observe 0:r1 0", 15),
        ):
            self.wrong(3, column, text_of(tail=(line, "never [0] = 0")))
        twelve = "observe " + " ".join(f"{core}:r{number}" for core in (0, 1) for number in range(6))
        self.call(read_test, text_of(tail=(twelve, "never 0:r0 = 0")))
        for more in (" [0]", " 0:r0", " x", " ="):
            self.wrong(3, len(twelve) + 2, text_of(tail=(twelve + more, "never 0:r0 = 0")))

    def test_claim_lines(self):
        for line, column in (
            ("never", 6), ("exists ; all", 13), ("never always", 7), ("never 0", 8), ("never 0:r1", 11),
            ("never 0:r1 =", 13),
            ("never 0:r1 = x", 14), ("never 0:r1 = 65536", 14), ("never 0:r1 = 01", 14), ("never 0:r1 0", 12),
            ("never 0:r1 == 0", 13), ("never 3:r1 = 0", 7), ("never [2] = 0", 8), ("never [00] = 0", 8),
            ("never 0:r2 = 0", 7), ("never [0] = 0", 7), ("never  1 : r1", 8), ("never [0", 9), ("never 0:r9 = 0", 9),
            ("never not", 10), ("never and", 7), ("never (", 8), ("never ()", 8), ("never (0:r1 = 0", 16),
            ("never 0:r1 = 0)", 15), ("never (0:r1 = 0))", 17), ("never 0:r1 = 0 and", 19),
            ("never 0:r1 = 0 or or", 19),
            ("never 0:r1 = 0 not 0:r1 = 0", 16), ("never 0:r1 = 0 0:r1 = 0", 16), ("never 0:r1 = 0 xor", 16),
            ("never 0:r1 = 0 and [0] = 1", 20), ("never not [0", 13), ("never not 0:r1 and 0:r1 = 0", 16),
            ("never (0:r1) = 0", 12), ("never (0:r1 = 0 5", 17), ("never 0:r1 = 0 [1] = 1", 16), ("never or", 7),
        ):
            self.wrong(4, column, text_of(tail=(TAIL[0], line)))

    def test_the_61st_token(self):
        nots = "never" + " not" * 54
        for good in (nots + " 0:r1 = 7", "never (" + "[1]=1 and " * 7 + "not not not not [1]=1 or 0:r1=0)",
                     nots + " 0:r1 = 7 ;)"):
            self.call(read_test, text_of(tail=(TAIL[0], good)))
        # What is missing or wrong up to the 60th token counts first.
        for line, column in (
            (nots + " not 0:r1 = 7", 5 + 4 * 55 + 9), (nots + " not not 0:r1 = 7", 5 + 4 * 56 + 7),
            ("never" + " not" * 59, 5 + 4 * 59 + 1), ("never" + " not" * 60, 5 + 4 * 59 + 2),
            ("never" + " (" * 70, 5 + 2 * 60), (nots + " 0:r1 = 7 )", 5 + 4 * 54 + 11),
            (nots + " 0:r1 = 7 and", 5 + 4 * 54 + 11), (nots + " 0:r1 = x and", 5 + 4 * 54 + 9),
            (nots + " not not 0:r2 = 7", 5 + 4 * 56 + 2), (nots + " not not not 0:r2 = 7", 5 + 4 * 57 + 4),
            ("never" + " x" * 60, 7),
        ):
            self.wrong(4, column, text_of(tail=(TAIL[0], line)))

    def test_lines_after_the_claim_line(self):
        good = text_of()
        for line in ("never [1] = 0", "halt", "5", ")", "x y z"):
            self.wrong(5, 1, good + "\n" + line)
            self.wrong(7, 4, good + "\n\n ;\n   " + line)
        self.call(read_test, good + "\n\n ; halt\n")

    def test_characters_come_first_in_their_line(self):
        self.wrong(1, 12, "start 0 0 0A")
        self.wrong(1, 1, "Memory 0")
        self.wrong(1, 1, "start 0\nA")
        self.wrong(2, 7, "memory 0\nstart -1")
        self.wrong(3, 9, text_of("halt 0 0!"))
        self.wrong(3, 6, text_of("halt 0 ;!"))
        self.wrong(3, 9, text_of(tail=("observe _", "never !")))
        self.wrong(4, 18, text_of(tail=(TAIL[0], "never 9:r1 = 0 5 +")))
        self.wrong(5, 3, text_of() + "\nx #")
        self.wrong(6, 1, text_of() + "\n\n\"")

    def test_line_feeds_are_no_spaces(self):
        self.wrong(1, 7, "memory\n0\nstart 0\nobserve [0]\nnever [0]=0")
        self.wrong(4, 12, "memory 0\nstart 0\nobserve [0]\nnever [0] =\n0")


class RandomTest(Reading):
    def mutated(self, draw, text):
        """The text with some small changes."""
        for _ in range(draw.choice((1, 1, 1, 2, 3))):
            place = draw.randrange(len(text) + 1)
            kind = draw.randrange(6)
            if kind == 0:
                text = text[:place] + text[place + 1:]
            elif kind == 1:
                text = text[:place] + draw.choice("ar019-:[]=() ;\nA") + text[place:]
            elif kind == 2:
                word = draw.choice((" 0 ", " r1 ", " not ", " and ", " ( ", " ) ", " halt ", "\n", " 0:r1 ", " [0] ",
                                    " = ", " 25 ", " 65536 ", " loads "))
                text = text[:place] + word + text[place:]
            else:
                words = text.split(" ")
                spot = draw.randrange(len(words))
                other = draw.randrange(len(words))
                if kind == 3:
                    words[spot] = words[other]
                elif kind == 4:
                    del words[spot]
                else:
                    words.insert(spot, words[other])
                text = " ".join(words)
        return text

    def test_random_texts(self):
        draw = random.Random(111)
        found = {True: 0, False: 0}
        places = set()
        for _ in range(4000):
            text = show_test(drawn_test(draw))
            if text is None:
                continue
            text = self.mutated(draw, text)
            finder = Finder(text)
            place = finder.place()
            found[place is None] += 1
            if place is None:
                test = read_test(text)
                self.assertEqual(repr(test[3]), repr(finder.condition()))
                self.assertEqual(read_test(show_test(test)), test)
                continue
            places.add(place)
            with self.assertRaises(TextError) as caught:
                read_test(text)
            self.assertEqual((caught.exception.line, caught.exception.column), place, text)
        self.assertGreater(min(found.values()), 300)
        self.assertGreater(len(places), 300)

    def test_each_beginning_of_a_text(self):
        text = text_of("store-conditional r1 r2 r3 ; why", "", "branch ltu r1 r2 12",
                       tail=(TAIL[0], "exists not (0:r1 = 3 or [1] = 65535) and 2:r7 = 0"))
        for end in range(len(text)):
            place = Finder(text[:end]).place()
            if place is not None:
                self.wrong(*place, text[:end])
            else:
                self.call(read_test, text[:end])

    def test_all_names_of_instructions_are_known(self):
        for name, parts in LINES.items():
            line = " ".join([name] + [{"R": "r3", "W": "7", "T": "9", "F": "full", "C": "geu"}[part]
                                      for part in parts.split()])
            self.assertEqual(self.code(line)[0][0], name.replace("-", " "))
            self.wrong(3, len(line) + 2, text_of(line + " 0"))
