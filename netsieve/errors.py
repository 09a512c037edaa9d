"""What the program refuses, one class for each refusal."""


class SieveError(ValueError):
    pass


class NotLetIn(SieveError):
    def __init__(self, at):
        SieveError.__init__(self, f"code is not let in: place {at}")
        self.at = at


class Stuck(SieveError):
    def __init__(self, at):
        SieveError.__init__(self, f"code is stuck: place {at}")
        self.at = at


class BadFilter(SieveError):
    def __init__(self, word):
        SieveError.__init__(self, f"no filter: word {word}")
        self.word = word


class BadLine(SieveError):
    def __init__(self, line):
        SieveError.__init__(self, f"no step: line {line}")
        self.line = line


class TooDeep(SieveError):
    pass
