"""The errors of the package, each directly below LookError."""


class LookError(ValueError):
    """The base of all errors of the package."""


class BadNumber(LookError):
    """What is no such integer, bit, turn or list of integers."""

    def __init__(self, part):
        self.part = part


class BadAmount(LookError):
    """What is no amount."""

    def __init__(self, part):
        self.part = part


class BadSpread(LookError):
    """What is no spread."""

    def __init__(self, part):
        self.part = part


class BadProgram(LookError):
    """What is no program, or does not make one."""

    def __init__(self, part):
        self.part = part


class BadNet(LookError):
    """What is no net, or does not make one."""

    def __init__(self, part):
        self.part = part


class BadLots(LookError):
    """What is no paper of right lots."""

    def __init__(self, part):
        self.part = part


class BadOrder(LookError):
    """What is no such order."""

    def __init__(self, part):
        self.part = part


class BadFalls(LookError):
    """What are no such falls."""

    def __init__(self, part):
        self.part = part


class BadSecrets(LookError):
    """What are no such secrets."""

    def __init__(self, part):
        self.part = part


class BadPaper(LookError):
    """What is no such paper."""

    def __init__(self, part):
        self.part = part


class Misfit(LookError):
    """What does not fit together."""

    def __init__(self, part):
        self.part = part


class NoName(LookError):
    """A name of nothing that is kept."""

    def __init__(self, value):
        self.value = value


class Twice(LookError):
    """A value that stands there already."""

    def __init__(self, value):
        self.value = value


class TooMany(LookError):
    """There are more than most."""

    def __init__(self, what, most):
        self.what = what
        self.most = most


class Nothing(LookError):
    """There is nothing to take back, or to do again."""


class BadText(LookError):
    """A text in which this item of this line cannot stand."""

    def __init__(self, line, item):
        self.line = line
        self.item = item


class BadLine(LookError):
    """A line of a script that raised this error."""

    def __init__(self, line, error):
        self.line = line
        self.error = error
