"""The errors that the package raises."""


class NetError(ValueError):
    """What all errors of the package are."""


class InvalidNet(NetError):
    """No net: at is the number of the first wrong thing, or -1."""

    def __init__(self, at):
        self.at = at


class InvalidText(NetError):
    """No text of the kind asked for: line and at tell the first wrong mark."""

    def __init__(self, line, at):
        self.line = line
        self.at = at


class InvalidNews(NetError):
    """No news: at is the number of the first wrong item, or -1."""

    def __init__(self, at):
        self.at = at


class InvalidClaim(NetError):
    """No claim: at is the number of the first wrong part."""

    def __init__(self, at):
        self.at = at


class InvalidTable(NetError):
    """No table, or none that fits: at tells what is first wrong."""

    def __init__(self, at):
        self.at = at


class InvalidTree(NetError):
    """No tree: at is the number of the first wrong cluster, or -1."""

    def __init__(self, at):
        self.at = at


class InvalidPaper(NetError):
    """No right paper: at tells what is first wrong."""

    def __init__(self, at):
        self.at = at


class InvalidNumber(NetError):
    """A number that cannot be taken: word tells which."""

    def __init__(self, word):
        self.word = word


class Refused(NetError):
    """What cannot be answered: word tells why."""

    def __init__(self, word):
        self.word = word
