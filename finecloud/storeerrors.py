"""The errors of versions and stores; each keeps what it was made with."""

from finecloud.errors import CloudError


class BadVersion(CloudError):
    """A number that no version has."""

    def __init__(self, number):
        self.number = number


class BadCut(CloudError):
    """A fall can't leave so many signs, for there aren't so many."""

    def __init__(self, place):
        self.place = place
