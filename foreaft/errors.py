"""The errors that the program raises."""


class ForeaftError(ValueError):
    """The base class of all errors of the program."""


class MachineError(ForeaftError):
    """Something is no machine, or machines cannot be used together."""

    def __init__(self, reason):
        super().__init__(reason)
        self.reason = reason


class BookError(ForeaftError):
    """A book cannot be changed, or be asked, in this way."""

    def __init__(self, reason):
        super().__init__(reason)
        self.reason = reason


class PatternError(ForeaftError):
    """A string is no pattern, which is seen at a place of it."""

    def __init__(self, place, reason):
        super().__init__(f"place {place}: {reason}")
        self.place = place
        self.reason = reason


class RuleError(ForeaftError):
    """A text is no list of rules, which is seen at a place of a line."""

    def __init__(self, line, place, reason):
        super().__init__(f"line {line}, place {place}: {reason}")
        self.line = line
        self.place = place
        self.reason = reason
