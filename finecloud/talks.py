"""Talks: a server with a cloud, a viewer, and letters that may be lost, doubled or late."""

from finecloud.errors import BadPoint
from finecloud.numbers import is_between
from finecloud.pieces import Knowledge
from finecloud.telling import fewest_facts, is_enough


class Talk:
    """A server tells a viewer what it wants to know of a cloud: all counts of a fineness that meet a box."""

    def __init__(self, cloud, box, fineness):
        self.cloud = cloud
        self.box = box
        self.fineness = fineness
        self.seen = Knowledge(cloud.space, {})
        self.reported = Knowledge(cloud.space, {})
        self.letters = []

    def send(self):
        """The server writes a letter for each of the fewest facts that lack by what is reported; how many."""
        prefixes = fewest_facts(self.cloud, self.reported, self.box, self.fineness)
        self.letters.extend([("fact", prefix, self.cloud.count(prefix)) for prefix in prefixes])
        return len(prefixes)

    def report(self):
        """The viewer writes a letter with all facts that it knows."""
        self.letters.append(("report", tuple(sorted(self.seen.facts.items()))))

    def deliver(self, at, is_kept):
        """The letter at a place comes; it is still on its way, too, if it is kept."""
        self._check_letter(at)
        letter = self.letters[at]
        if letter[0] == "fact":
            self.seen = self.seen.joined(Knowledge(self.cloud.space, {letter[1]: letter[2]}))
        else:
            facts = {prefix: count for prefix, count in letter[1]}
            self.reported = self.reported.joined(Knowledge(self.cloud.space, facts))
        if not is_kept:
            del self.letters[at]

    def lose(self, at):
        """The letter at a place is lost."""
        self._check_letter(at)
        del self.letters[at]

    def is_done(self):
        """Whether the viewer knows all that it wants to know."""
        return is_enough(self.seen, self.box, self.fineness)

    def _check_letter(self, at):
        """No place of a letter is wrong."""
        if not is_between(at, 0, len(self.letters) - 1):
            raise BadPoint(at)
