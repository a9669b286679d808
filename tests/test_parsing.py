"""Tests of the parsing (points 2.1 to 2.4)."""

import unittest

from samples import PROGRAM, SMALLEST, SMALLEST_TEXT, TEXT
from wholepackets.errors import TextError
from wholepackets.parsing import parse_program
from wholepackets.tokens import tokenize

HEAD = "program p parser { } "


def parts(text):
    """Return the tokens of a text as strings, without the end."""
    return [str(token[1]) for token in tokenize(text)[:-1]]


def control_of(text):
    return parse_program(HEAD + "control { " + text + " }")[7]


def operations_of(text):
    return parse_program(HEAD + "action a ( ) { " + text + " } control { }")[5][0][3]


def expression_of(text):
    return operations_of("send " + text + ";")[0][1]


def states_of(text):
    return parse_program("program p parser { " + text + " } control { }")[4]


def table_of(text):
    return parse_program(HEAD + "table t { " + text + " } control { }")[6][0]


def nested_blocks(count, inner, behind="}"):
    """Return a text with open blocks in each other, each brace on a line of its own."""
    opened = "control\n{\n" + "if valid h\n{\n" * (count - 1)
    return "program p parser { }\n" + opened + inner + "\n" + "}\n" * (count - 1) + behind


class ParsingCase(unittest.TestCase):
    def assert_fails(self, text, line=1):
        with self.assertRaises(TextError, msg=repr(text)) as caught:
            parse_program(text)
        self.assertEqual(caught.exception.line, line, msg=repr(text))


class GrammarTest(ParsingCase):
    """Points 2.1 and 2.2."""

    def test_whole_program(self):
        self.assertEqual(parse_program(TEXT), PROGRAM)

    def test_layout_has_no_meaning(self):
        self.assertEqual(parse_program(" ".join(parts(TEXT))), PROGRAM)
        self.assertEqual(parse_program("\n# x\n".join(parts(TEXT)) + "#"), PROGRAM)

    def test_example(self):
        expected = ("program", "p", [], [], [("state", "start", None, ("go", "accept"))], [], [], [], [])
        text = "program p parser { state start { go accept; } } control { }"
        self.assertEqual(parse_program(text), expected)

    def test_smallest_program(self):
        self.assertEqual(parse_program(SMALLEST_TEXT), SMALLEST)

    def test_missing_and_empty_parts(self):
        empty = parse_program("program p meta { } parser { } control { }")
        self.assertEqual(empty, SMALLEST)
        self.assertEqual(parse_program("program p parser { } control { } emit h;")[8], ["h"])
        self.assertEqual(parse_program("program p meta { m: 3; } parser { } control { }")[3], [("m", 3)])
        self.assertEqual(parse_program("program p header h { } parser { } control { }")[2], [("header", "h", [])])

    def test_numbers(self):
        program = parse_program("program p meta { a: 0x20; b: 0; c: 4294967295; } parser { } control { }")
        self.assertEqual(program[3], [("a", 32), ("b", 0), ("c", 4294967295)])

    def test_emits(self):
        program = parse_program("program p parser { } control { } emit a, b, a;")
        self.assertEqual(program[8], ["a", "b", "a"])

    def test_targets(self):
        states = states_of("state a { go accept; } state b { go reject; } state c { go start; }")
        self.assertEqual([state[3] for state in states], [("go", "accept"), ("go", "reject"), ("go", "start")])
        for target in ("accept", "reject", "d"):
            text = "state a { extract h; select h.f { 1 -> " + target + "; else -> " + target + "; } }"
            expected = [("state", "a", "h", ("select", ("h", "f"), [(1, None, target)], target))]
            self.assertEqual(states_of(text), expected)

    def test_rows_of_a_select(self):
        text = "state a { select meta.m { 0 & 0 -> b; 0x10 -> c; 3&4->accept; else -> reject; } }"
        rows = [(0, 0, "b"), (16, None, "c"), (3, 4, "accept")]
        self.assertEqual(states_of(text)[0][3], ("select", ("meta", "m"), rows, "reject"))

    def test_params(self):
        program = parse_program(HEAD + "action a(x: 1) { } action b(x: 1, y: 33) { } control { }")
        self.assertEqual(program[5], [("action", "a", [("x", 1)], []), ("action", "b", [("x", 1), ("y", 33)], [])])

    def test_operands(self):
        self.assertEqual(expression_of("7"), ("num", 7))
        self.assertEqual(expression_of("x"), ("param", "x"))
        self.assertEqual(expression_of("x.y"), ("field", "x", "y"))
        self.assertEqual(expression_of("x . y"), ("field", "x", "y"))
        self.assertEqual(expression_of("meta.y"), ("field", "meta", "y"))
        self.assertEqual(expression_of("packet.port"), ("field", "packet", "port"))

    def test_operators(self):
        for sign in "+-&|^":
            self.assertEqual(expression_of("x " + sign + " 3"), (sign, ("param", "x"), ("num", 3)))
            self.assertEqual(expression_of("3" + sign + "x.y"), (sign, ("num", 3), ("field", "x", "y")))
            self.assertEqual(expression_of("meta.a" + sign + "b"), (sign, ("field", "meta", "a"), ("param", "b")))

    def test_operations(self):
        expected = [("add", "h"), ("remove", "i"), ("drop",), ("send", ("num", 1)), ("set", ("h", "f"), ("num", 2))]
        self.assertEqual(operations_of("add h; remove i; drop; send 1; h.f = 2;"), expected)

    def test_fields_that_are_set(self):
        for owner in ("h", "meta", "packet"):
            self.assertEqual(operations_of(owner + ".port = 1;"), [("set", (owner, "port"), ("num", 1))])

    def test_tables(self):
        self.assertEqual(table_of("default a(); size 0;"), ("table", "t", [], [], ("a", []), 0))
        keys_text = "key h.a exact; key meta.b mask; key packet.port prefix; "
        table = table_of(keys_text + "use a; use a; default b(1, 2); size 3;")
        keys = [(("h", "a"), "exact"), (("meta", "b"), "mask"), (("packet", "port"), "prefix")]
        self.assertEqual(table, ("table", "t", keys, ["a", "a"], ("b", [1, 2]), 3))
        self.assertEqual(table_of("default a(0x5); size 1;")[4], ("a", [5]))

    def test_statements(self):
        self.assertEqual(control_of("apply t; apply t;"), [("apply", "t"), ("apply", "t")])
        test = ("valid", "h")
        self.assertEqual(control_of("if valid h { }"), [("if", test, [], [])])
        self.assertEqual(control_of("if valid h { } else { }"), [("if", test, [], [])])
        self.assertEqual(control_of("if valid h { apply t; }"), [("if", test, [("apply", "t")], [])])
        self.assertEqual(control_of("if valid h { } else { apply t; }"), [("if", test, [], [("apply", "t")])])

    def test_else_belongs_to_its_if(self):
        test = ("valid", "h")
        inner = ("if", test, [], [("apply", "t")])
        self.assertEqual(control_of("if valid h { if valid h { } else { apply t; } }"), [("if", test, [inner], [])])
        inner = ("if", test, [], [])
        self.assertEqual(
            control_of("if valid h { if valid h { } } else { apply t; }"), [("if", test, [inner], [("apply", "t")])]
        )

    def test_tests(self):
        expected = {
            "h.f == 3": ("==", ("h", "f"), 3),
            "meta.m < 0": ("<", ("meta", "m"), 0),
            "packet.port==7": ("==", ("packet", "port"), 7),
            "valid h": ("valid", "h"),
            "not valid h": ("not", ("valid", "h")),
            "not not h.f < 1": ("not", ("not", ("<", ("h", "f"), 1))),
        }
        for text, test in expected.items():
            self.assertEqual(control_of("if " + text + " { }"), [("if", test, [], [])])

    def test_programs_that_are_not_valid_are_parsed(self):
        text = "program p header h { a: 99; a: 0; } header h { } parser { state a { go a; } } control { apply t; }"
        headers = [("header", "h", [("a", 99), ("a", 0)]), ("header", "h", [])]
        states = [("state", "a", None, ("go", "a"))]
        self.assertEqual(parse_program(text), ("program", "p", headers, [], states, [], [], [("apply", "t")], []))


class DepthTest(ParsingCase):
    """Point 2.3."""

    def test_eight_blocks(self):
        statements = parse_program(nested_blocks(8, "apply t;"))[7]
        for _ in range(7):
            self.assertEqual(len(statements), 1)
            statement = statements[0]
            self.assertEqual(statement[:2] + statement[3:], ("if", ("valid", "h"), []))
            statements = statement[2]
        self.assertEqual(statements, [("apply", "t")])

    def test_ninth_block(self):
        self.assert_fails(nested_blocks(9, "apply t;"), 19)
        self.assert_fails(nested_blocks(9, ""), 19)
        self.assert_fails(nested_blocks(12, ""), 19)
        self.assert_fails(nested_blocks(200, ""), 19)

    def test_second_list_as_eighth_and_ninth_block(self):
        self.assertEqual(len(parse_program(nested_blocks(7, "if valid h\n{\n}\nelse\n{\napply t;\n}"))[7]), 1)
        self.assert_fails(nested_blocks(7, "if valid h\n{\n}\nelse\n{\nif valid h\n{\n}\n}"), 22)
        self.assert_fails(nested_blocks(8, "if valid h\n{\n}\nelse\n{\n}"), 19)

    def test_closed_blocks_do_not_count(self):
        self.assertEqual(len(control_of("if valid h { } else { } " * 20)), 20)
        self.assertEqual(len(parse_program(nested_blocks(7, "if valid h { } else { apply t; } " * 20))[7]), 1)

    def test_other_errors_in_front_of_the_ninth_block(self):
        self.assert_fails(nested_blocks(8, "if valid\nh h\n{ }"), 19)
        self.assert_fails(nested_blocks(8, "if\nvalid h\n;"), 20)

    def test_eight_nots(self):
        test = ("valid", "h")
        for _ in range(8):
            test = ("not", test)
        self.assertEqual(control_of("if " + "not " * 8 + "valid h { }"), [("if", test, [], [])])
        nested = control_of("if " + "not " * 8 + "valid h { if " + "not " * 8 + "valid h { } }")
        self.assertEqual(nested, [("if", test, [("if", test, [], [])], [])])

    def test_ninth_not(self):
        def text(more):
            return HEAD + "control {\nif\n" + "not\n" * 8 + more + " meta.m\n== 1 { } }"

        self.assertEqual(len(parse_program(text(""))[7]), 1)
        self.assert_fails(text("not"), 11)
        self.assert_fails(text("not\nnot\nnot"), 11)
        self.assert_fails(text("valid"), 11)


class ErrorsTest(ParsingCase):
    """Point 2.4."""

    def test_example(self):
        self.assert_fails("program p\nparser }", 2)

    def test_text_that_ends_too_early(self):
        # Every token has a line of its own, so the end is on the last token's line.
        words = parts(TEXT)
        whole = [len(words), words.index("emit")]
        for count in range(len(words)):
            text = "\n".join(words[:count])
            if count in whole:
                parse_program(text)
            else:
                self.assert_fails(text, max(count, 1))
                self.assert_fails(text + "\n\n", max(count, 1) + 2)
                self.assert_fails(text + " # x\n# y", max(count, 1) + 1)

    def test_wrong_token_in_front_of_each(self):
        # The word "program" stands nowhere but at the start.
        words = parts(TEXT)
        for at in range(1, len(words) + 1):
            self.assert_fails("\n".join(words[:at] + ["program"] + words[at:]), at + 1)

    def test_wrong_token_in_place_of_each(self):
        words = parts(TEXT)
        for at in range(1, len(words)):
            self.assert_fails("\n".join(words[:at] + ["program"] + words[at + 1:]), at + 1)

    def test_first_word(self):
        for text in ("", "header h { }", "p", "programs p", "7", "{"):
            self.assert_fails(text)
        self.assert_fails("\n\n", 3)
        self.assert_fails("# program p\n\nmeta", 3)

    def test_something_behind_the_end(self):
        for wrong in ("x", "7", ";", "}", "emit", "control { }", "program"):
            self.assert_fails(TEXT + "\n" + wrong, TEXT.count("\n") + 2)
        self.assert_fails(SMALLEST_TEXT + "x", 6)
        self.assert_fails(SMALLEST_TEXT + "emit a;\nemit b;", 7)

    def test_errors_of_tokens_come_first(self):
        self.assert_fails("parser\n\n07", 3)
        self.assert_fails("program p p\n" + "a" * 17, 2)
        self.assert_fails(SMALLEST_TEXT + "x\n\n!", 8)
        self.assert_fails(nested_blocks(9, "") + "\n\n4294967296", nested_blocks(9, "").count("\n") + 3)
        self.assert_fails("!\nparser", 1)

    def test_first_error_of_the_grammar_decides(self):
        self.assert_fails("program p\nheader h { a 8;\n} parser parser\n", 2)

    def test_reserved_words_are_no_names(self):
        for text in ("program meta\nparser { } control { }", "program accept parser { } control { }"):
            self.assert_fails(text)
        for word in ("accept", "meta", "packet", "size", "valid"):
            self.assert_fails("program p\nheader " + word + " { } parser { } control { }", 2)
            self.assert_fails("program p\nheader h { " + word + ": 8; } parser { } control { }", 2)
            self.assert_fails("program p parser {\nstate " + word + " { go accept; } } control { }", 2)
            self.assert_fails("program p parser { } control {\napply " + word + "; }", 2)
            self.assert_fails("program p parser { } control { }\nemit " + word + ";", 2)
            self.assert_fails("program p parser { }\naction a() { add " + word + "; } control { }", 2)
            self.assert_fails("program p parser { }\naction a() { send h." + word + "; } control { }", 2)

    def test_order_of_the_parts(self):
        self.assert_fails("program p\nmeta { }\nheader h { } parser { } control { }", 3)
        self.assert_fails("program p meta { }\nmeta { } parser { } control { }", 2)
        self.assert_fails("program p parser { }\nparser { } control { }", 2)
        self.assert_fails("program p parser { } table t { default a(); size 1; }\naction a() { } control { }", 2)
        self.assert_fails("program p parser { } control { }\naction a() { }", 2)
        self.assert_fails("program p parser { } table t { use a;\nkey h.a exact; default a(); size 1; } control { }", 2)
        self.assert_fails("program p parser { } table t { default a();\nuse a; size 1; } control { }", 2)
        self.assert_fails("program p parser { } table t { size 1;\ndefault a(); } control { }", 1)
        self.assert_fails("program p parser { state a { go b;\nextract h; } } control { }", 2)
        self.assert_fails("program p parser { state a { extract h;\nextract i; go b; } } control { }", 2)
        self.assert_fails("program p parser { state a { extract h;\n} } control { }", 2)

    def test_lists(self):
        self.assert_fails("program p parser { } control { } emit\n;", 2)
        self.assert_fails("program p parser { } control { } emit a\nb;", 2)
        self.assert_fails("program p parser { } control { } emit a,\n;", 2)
        self.assert_fails("program p parser { }\naction a(x: 8\ny: 8) { } control { }", 3)
        self.assert_fails("program p parser { }\naction a(x: 8,\n) { } control { }", 3)
        self.assert_fails("program p parser { }\naction a(\n, x: 8) { } control { }", 3)
        self.assert_fails("program p parser { } table t { default a(1,\n); size 1; } control { }", 2)
        self.assert_fails("program p parser { } table t { default a(1\n2); size 1; } control { }", 2)
        self.assert_fails("program p parser { } table t { default a(\nx); size 1; } control { }", 2)

    def test_expressions(self):
        wrong = ("1 +\n", "1 + 2\n+ 3", "\n- 1", "1\n<", "x\ny", "x.\n7", "meta\n", "packet\n+", "1\n.", "\n(1)", "->")
        for text in wrong:
            body = HEAD + "action a() { send " + text + "; } control { }"
            self.assert_fails(body, 1 + text.count("\n"))

    def test_operations(self):
        for text in ("h = 1;", "h.f == 1;", "drop 1;", "send;", "add h.f;", "remove 7;", "set h.f = 1;", "apply t;"):
            self.assert_fails(HEAD + "\naction a() { " + text + "\n} control { }", 2)
        self.assert_fails(HEAD + "\naction a() { drop\n}\ncontrol { }", 3)

    def test_tests(self):
        wrong = ("h", "h.f = 1", "h.f", "h.f == x", "h.f < h.g", "valid", "valid h.f", "3 == h.f", "not", "(valid h)")
        for text in wrong:
            self.assert_fails(HEAD + "control {\nif " + text + " {\n} }", 2)

    def test_else_needs_an_if_and_a_block(self):
        self.assert_fails(HEAD + "control {\nelse { } }", 2)
        self.assert_fails(HEAD + "control { if valid h { }\nelse\nif valid h { } }", 3)
        self.assert_fails(HEAD + "control { if valid h { } else { }\nelse { } }", 2)
        self.assert_fails(HEAD + "control { if valid h\napply t; }", 2)

    def test_selects(self):
        wrong = (
            "1 -> a;", "else -> a; 1 -> b;", "x -> a; else -> b;", "1 & x -> a; else -> b;", "1 -> 2; else -> b;",
            "else -> x.y;", "else -> a",
        )
        for text in wrong:
            self.assert_fails("program p parser { state s { select h.f {\n" + text + " } } } control { }", 2)
        self.assert_fails("program p parser { state s { select h {\nelse -> b; } } } control { }", 1)
        self.assert_fails("program p parser { state s { select h.f { 1 | 2\n-> b; else -> b; } } } control { }", 1)

    def test_keys(self):
        for text in ("key h exact;", "key h.f;", "key h.f size;", "key h.f other;", "key exact;"):
            self.assert_fails(HEAD + "table t {\n" + text + "\n default a(); size 1; } control { }", 2)


if __name__ == "__main__":
    unittest.main()
