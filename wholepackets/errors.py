"""The errors that the program raises."""


class SwitchError(ValueError):
    """The base class of all errors that the program raises."""


class TextError(SwitchError):
    """A program's text cannot be read at the line `line`."""

    def __init__(self, line):
        super().__init__(f"line {line}")
        self.line = line


class RuleError(SwitchError):
    """A program is not valid: it breaks the rule with the name `rule`."""

    def __init__(self, rule):
        super().__init__(f"rule {rule}")
        self.rule = rule


class ChangeError(SwitchError):
    """A change of entries is rejected with the reason `reason`."""

    def __init__(self, reason):
        super().__init__(f"reason {reason}")
        self.reason = reason


class BuildError(SwitchError):
    """No image of a configuration can be built."""


class CommandError(SwitchError):
    """The line `line` of a script is not a command."""

    def __init__(self, line):
        super().__init__(f"line {line}")
        self.line = line
