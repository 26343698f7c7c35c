"""The errors of the package; each keeps what it was made with."""


class CloudError(Exception):
    """Below it are all errors of the package."""


class BadSpace(CloudError):
    """There is no such space: "dimensions" or "bits" is wrong."""

    def __init__(self, word):
        self.word = word


class BadPoint(CloudError):
    """A point that is none, or that can't stand there."""

    def __init__(self, point):
        self.point = point


class BadCode(CloudError):
    """Bits, or a rank, of no cloud; how many bits could be read, or there are."""

    def __init__(self, many):
        self.many = many


class BadPiece(CloudError):
    """A prefix whose fact can't be so."""

    def __init__(self, prefix):
        self.prefix = prefix
