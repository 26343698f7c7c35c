"""The error of texts; it keeps what it was made with."""

from finecloud.errors import CloudError


class BadText(CloudError):
    """The first word of a text that can't stand there, by its line and its place in it, from 0 both."""

    def __init__(self, line, word):
        self.line = line
        self.word = word
