"""Tests of the rule "parser" (points 3.1 and 3.2)."""

import unittest

from building import START, action, header, make, select, state
from wholepackets.errors import RuleError
from wholepackets.rules import check

HEADERS = [header(name, 8) for name in "hijk"]
PORT = ("packet", "port")


def branch(*targets):
    """Return a select by the port that leads to some states."""
    rows = [(at, None, target) for at, target in enumerate(targets[:-1])]
    return select(PORT, rows, targets[-1])


class ParserRuleTest(unittest.TestCase):
    def assert_parser(self, holds, *states):
        """Check whether states keep the rule "parser"."""
        program = make(headers=HEADERS, meta=[("m", 8)], states=states)
        if holds:
            self.assertIsNone(check(program))
            return
        with self.assertRaises(RuleError) as caught:
            check(program)
        self.assertEqual(caught.exception.rule, "parser")

    def test_start(self):
        self.assert_parser(True, START)
        self.assert_parser(True, state("other"), START)
        self.assert_parser(False)
        self.assert_parser(False, state("Start"), state("other", None, ("go", "accept")))

    def test_targets(self):
        self.assert_parser(True, state("start", None, ("go", "s")), state("s", None, ("go", "reject")))
        self.assert_parser(True, state("start", None, branch("accept", "s", "reject", "s")), state("s"))
        self.assert_parser(False, state("start", None, ("go", "t")), state("s"))
        self.assert_parser(False, state("start", None, branch("t", "accept")))
        self.assert_parser(False, state("start", None, branch("accept", "t")))
        self.assert_parser(False, START, state("unreached", None, ("go", "t")))

    def test_circles(self):
        self.assert_parser(False, state("start", None, ("go", "start")))
        self.assert_parser(False, state("start", None, branch("accept", "start", "accept")))
        self.assert_parser(False, state("start", None, ("go", "s")), state("s", None, ("go", "start")))
        self.assert_parser(
            False,
            state("start", None, ("go", "s")),
            state("s", None, branch("accept", "t")),
            state("t", None, branch("u", "reject")),
            state("u", None, ("go", "s")),
        )

    def test_circles_that_are_not_reached(self):
        self.assert_parser(False, START, state("s", None, ("go", "s")))
        self.assert_parser(False, START, state("s", None, ("go", "t")), state("t", None, branch("start", "s")))

    def test_header_extracted_twice(self):
        self.assert_parser(True, state("start", "h", ("go", "s")), state("s", "i"))
        self.assert_parser(False, state("start", "h", ("go", "s")), state("s", "h"))
        self.assert_parser(
            False, state("start", "h", ("go", "s")), state("s", None, ("go", "t")), state("t", "h")
        )

    def test_header_extracted_on_two_paths(self):
        start = state("start", None, branch("s", "t"))
        self.assert_parser(True, start, state("s", "h"), state("t", "h"))
        self.assert_parser(True, start, state("s", "h", ("go", "u")), state("t", "h", ("go", "u")), state("u", "i"))

    def test_header_extracted_twice_on_one_of_several_paths(self):
        start = state("start", None, branch("s", "t", "u"))
        self.assert_parser(False, start, state("s", "h", ("go", "u")), state("t", "i", ("go", "u")), state("u", "h"))
        self.assert_parser(False, start, state("s", "i", ("go", "u")), state("t", "h", ("go", "u")), state("u", "h"))
        self.assert_parser(True, start, state("s", "i", ("go", "u")), state("t", "j", ("go", "u")), state("u", "h"))

    def test_select_of_meta(self):
        self.assert_parser(False, state("start", "h", select(("meta", "m"))))
        self.assert_parser(False, START, state("unreached", None, select(("meta", "m"))))

    def test_select_of_the_port(self):
        self.assert_parser(True, state("start", None, select(PORT)))

    def test_select_of_a_header(self):
        by_h = select(("h", "a"))
        self.assert_parser(True, state("start", "h", by_h))
        self.assert_parser(True, state("start", "h", ("go", "s")), state("s", "i", by_h))
        self.assert_parser(False, state("start", None, by_h))
        self.assert_parser(False, state("start", "i", by_h))
        self.assert_parser(False, state("start", "i", select(("h", "a"), [(1, None, "s")])), state("s", "h"))

    def test_select_of_a_header_that_one_path_does_not_extract(self):
        by_h = select(("h", "a"))
        start = state("start", None, branch("s", "t"))
        both = [state("s", "h", ("go", "u")), state("t", "h", ("go", "u"))]
        self.assert_parser(True, start, *both, state("u", None, by_h))
        for one in ([both[0], state("t", "i", ("go", "u"))], [state("s", "i", ("go", "u")), both[1]]):
            self.assert_parser(False, start, *one, state("u", None, by_h))
        past = state("start", None, branch("s", "u"))
        self.assert_parser(False, past, state("s", "h", ("go", "u")), state("u", None, by_h))

    def test_no_path_leads_to_a_state(self):
        by_h = select(("h", "a"))
        self.assert_parser(True, START, state("unreached", None, by_h))
        self.assert_parser(True, START, state("unreached", "h", ("go", "next")), state("next", "h"))
        # A path begins at "start", though another state leads to the same one.
        start = state("start", "h", ("go", "s"))
        self.assert_parser(True, start, state("s", None, by_h), state("u", None, ("go", "s")))

    def test_many_paths(self):
        states = [state("start", None, branch("s0", "s1"))]
        for at in range(5):
            states.append(state("s" + str(at), None, branch("s" + str(at + 1), "s" + str(min(at + 2, 6)))))
        self.assert_parser(True, *states, state("s5", None, ("go", "s6")), state("s6", "h", select(("h", "a"))))
        self.assert_parser(False, *states, state("s5", "h", ("go", "s6")), state("s6", None, select(("h", "a"))))

    def test_place_in_the_order(self):
        bad_way = state("start", None, ("go", "nowhere"))
        many = [action("a" + str(at)) for at in range(9)]
        for rule, parts in {
            "parser": {"states": [bad_way], "actions": many},
            "name": {"states": [bad_way, state("9")]},
            "size": {"states": [START], "actions": many},
            "field": {"states": [bad_way, state("s", "x")]},
        }.items():
            with self.assertRaises(RuleError) as caught:
                check(make(**parts))
            self.assertEqual(caught.exception.rule, rule)


if __name__ == "__main__":
    unittest.main()
