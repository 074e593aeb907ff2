"""Tokens: [340]."""

import random

from litmuscore.errors import TextError
from litmuscore.tokens import tokens_of
from tests.helpers import Case
from tests.texts import divided

PRINTABLE = [chr(code) for code in range(32, 127) if chr(code) != "%"]


class TokensTest(Case):
    def test_each_kind(self):
        for name in ("a", "z", "r0", "store", "fetch-add", "a-", "a--9-z", "abcdefghijklmnopqrstuvwxyz0123456789-"):
            self.expect((("name", name, 1),), tokens_of, name)
        for number in ("0", "7", "00", "0123456789", "9" * 5000):
            self.expect((("number", number, 1),), tokens_of, number)
        for sign in (":", "[", "]", "=", "(", ")"):
            self.expect((("sign", sign, 1),), tokens_of, sign)

    def test_side_by_side_and_apart(self):
        self.expect((("number", "1", 1), ("sign", ":", 2), ("name", "r2", 3), ("sign", "=", 5), ("number", "65535", 6)),
                    tokens_of, "1:r2=65535")
        self.expect((("number", "1", 3), ("sign", ":", 5), ("name", "r2", 6), ("sign", "=", 9), ("number", "7", 12)),
                    tokens_of, "  1 :r2 =  7 ")
        signs = tuple(("sign", sign, 4 + place) for place, sign in enumerate("(([]==)"))
        self.expect((("name", "not", 1), *signs), tokens_of, "not(([]==)")

    def test_names_and_numbers_end_where_another_one_begins(self):
        self.expect((("number", "12", 1), ("name", "ab", 3)), tokens_of, "12ab")
        self.expect((("name", "ab12", 1),), tokens_of, "ab12")
        self.expect((("name", "a", 1), ("name", "b", 3), ("number", "1", 5), ("number", "2", 7)), tokens_of, "a b 1 2")
        self.expect((("name", "a", 1), ("sign", ":", 2), ("name", "b", 3)), tokens_of, "a:b")

    def test_without_tokens(self):
        for line in ("", " ", "      ", ";", "; memory 0", "   ;", ";;;", "  ; A_B-+*/\"'"):
            self.expect((), tokens_of, line)

    def test_semicolons(self):
        self.expect((("name", "halt", 1),), tokens_of, "halt;")
        self.expect((("name", "halt", 2), ("number", "5", 7)), tokens_of, " halt 5 ; store _ ; #")
        self.expect((("name", "a", 1),), tokens_of, "a;b")

    def test_each_character_that_belongs_to_no_token(self):
        good = set("abcdefghijklmnopqrstuvwxyz0123456789:[]=() ;")
        for character in PRINTABLE:
            if character in good:
                continue
            for before in ("", " ", "a ", "12", "abc", "( )", "  a:b =  "):
                line = before + character
                if character == "-" and before == "abc":
                    self.expect((("name", "abc-", 1),), tokens_of, line)
                    continue
                place = {"line": 1, "column": len(before) + 1}
                for after in ("", " a", "; b", character):
                    self.refuse(TextError, place, tokens_of, line + after)

    def test_hyphens_stand_in_names_alone(self):
        for line, column in (("-", 1), ("-a", 1), ("1-", 2), ("a -", 3), ("a:-", 3), ("store- -conditional", 8)):
            self.refuse(TextError, {"line": 1, "column": column}, tokens_of, line)

    def test_the_first_of_several(self):
        self.refuse(TextError, {"line": 1, "column": 3}, tokens_of, "a A B")
        self.refuse(TextError, {"line": 1, "column": 1}, tokens_of, "_;")
        self.expect((), tokens_of, ";_")

    def test_random_lines(self):
        draw = random.Random(101)
        for _ in range(3000):
            line = "".join(draw.choice("ab19-:[]=() ;" + draw.choice("A_+ ")) for _ in range(draw.randrange(12)))
            tokens, column = divided(line)
            if column is not None:
                self.refuse(TextError, {"line": 1, "column": column}, tokens_of, line)
                continue
            found = self.call(tokens_of, line)
            self.assertEqual([(text, place) for _, text, place in found], tokens)
            for kind, text, _ in found:
                self.assertEqual(kind, "name" if text[0].isalpha() else "number" if text[0].isdigit() else "sign")
