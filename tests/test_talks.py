"""Point [45]."""

import unittest

from finecloud.clouds import Cloud, cloud_of
from finecloud.errors import BadPoint
from finecloud.pieces import Knowledge
from finecloud.space import Box, Space
from finecloud.talks import Talk
from finecloud.telling import fewest_facts, is_enough
from tests import plain

SPACE = Space(2, 2)
SHEEP = Cloud(SPACE, [(0, 0), (1, 0), (3, 3)])
WHOLE = Box(SPACE, (0, 0), (3, 3))


def deliver_all(talk):
    while talk.letters:
        talk.deliver(0, False)


class Talks(unittest.TestCase):
    def test_attributes(self):
        talk = Talk(SHEEP, WHOLE, 2)
        self.assertEqual((talk.cloud, talk.box, talk.fineness, talk.letters), (SHEEP, WHOLE, 2, []))
        self.assertEqual((talk.seen, talk.reported), (Knowledge(SPACE, {}), Knowledge(SPACE, {})))
        self.assertIs(type(talk.letters), list)
        self.assertIs(talk.is_done(), False)

    def test_sending(self):
        talk = Talk(SHEEP, WHOLE, 4)
        facts = fewest_facts(SHEEP, Knowledge(SPACE, {}), WHOLE, 4)
        self.assertEqual(talk.send(), len(facts))
        self.assertEqual(talk.letters, [("fact", prefix, SHEEP.count(prefix)) for prefix in facts])
        self.assertEqual(talk.send(), len(facts))
        self.assertEqual(len(talk.letters), 2 * len(facts))
        self.assertEqual((talk.seen.facts, talk.reported.facts), ({}, {}))
        self.assertFalse(talk.is_done())
        deliver_all(talk)
        self.assertEqual(talk.seen.facts, {prefix: SHEEP.count(prefix) for prefix in facts})
        self.assertEqual(talk.reported.facts, {})
        self.assertIs(talk.is_done(), True)

    def test_reporting(self):
        talk = Talk(SHEEP, WHOLE, 1)
        talk.report()
        self.assertEqual(talk.letters, [("report", ())])
        talk.send()
        facts = tuple((prefix, count) for _, prefix, count in talk.letters[1:])
        deliver_all(talk)
        talk.report()
        self.assertEqual(talk.letters, [("report", tuple(sorted(facts)))])
        self.assertEqual(talk.reported.facts, {})
        talk.deliver(0, True)
        self.assertEqual(talk.reported.facts, dict(facts))
        self.assertEqual(talk.letters, [("report", tuple(sorted(facts)))])
        self.assertEqual(talk.send(), 0)

    def test_a_late_report_tells_what_was_known_then(self):
        talk = Talk(SHEEP, WHOLE, 4)
        talk.send()
        talk.deliver(1, False)
        known = dict(talk.seen.facts)
        talk.report()
        while len(talk.letters) > 1:
            talk.deliver(0, False)
        self.assertTrue(talk.is_done())
        talk.deliver(0, False)
        self.assertEqual(talk.reported.facts, known)
        many = talk.send()
        self.assertEqual(many, len(fewest_facts(SHEEP, Knowledge(SPACE, known), WHOLE, 4)))

    def test_letters_kept_and_lost(self):
        talk = Talk(SHEEP, WHOLE, 4)
        talk.send()
        letters = list(talk.letters)
        talk.deliver(2, True)
        self.assertEqual(talk.letters, letters)
        self.assertEqual(talk.seen.facts, {letters[2][1]: letters[2][2]})
        talk.deliver(2, False)
        self.assertEqual(talk.letters, letters[:2] + letters[3:])
        self.assertEqual(talk.seen.facts, {letters[2][1]: letters[2][2]})
        talk.lose(0)
        self.assertEqual(talk.letters, letters[1:2] + letters[3:])
        self.assertEqual(talk.seen.facts, {letters[2][1]: letters[2][2]})

    def wrong(self, at, action, *told):
        with self.assertRaises(BadPoint) as caught:
            action(*told)
        self.assertEqual(caught.exception.point, at)
        self.assertIs(type(caught.exception.point), type(at))

    def test_no_letter_at_a_place(self):
        none, some = Talk(SHEEP, WHOLE, 4), Talk(SHEEP, WHOLE, 4)
        many = some.send()
        for talk, first in ((none, 0), (some, many)):
            for at in (-1, first, first + 7, 10 ** 30, True, False, None, "0", 0.0, (0,)):
                self.wrong(at, talk.lose, at)
                self.wrong(at, talk.deliver, at, False)
                self.wrong(at, talk.deliver, at, True)
        self.assertEqual((len(none.letters), len(some.letters), some.seen.facts), (0, many, {}))

    def test_wrong_finenesses(self):
        for fineness in (-1, 5, 10 ** 30, True, False, None, "1", 1.0):
            talk = Talk(SHEEP, WHOLE, fineness)
            self.assertIs(talk.fineness, fineness)
            talk.report()
            with self.assertRaises(BadPoint) as caught:
                talk.send()
            self.assertIs(caught.exception.point, fineness)
            self.assertEqual(talk.letters, [("report", ())])

    def test_nothing_left_to_tell(self):
        talk = Talk(SHEEP, WHOLE, 0)
        self.assertEqual(talk.send(), 1)
        deliver_all(talk)
        talk.report()
        deliver_all(talk)
        self.assertEqual((talk.send(), talk.letters, talk.is_done()), (0, [], True))


class Losses(unittest.TestCase):
    def step(self, talk, number):
        """Something that happens to the letters; the number tells what."""
        what, at = number % 8, number // 8
        if what == 0:
            talk.send()
        elif what == 1:
            talk.report()
        elif talk.letters and what in (2, 3):
            talk.lose(at % len(talk.letters))
        elif talk.letters:
            talk.deliver(at % len(talk.letters), what in (4, 5))

    def check_talk(self, talk):
        """Whether what the viewer knows is so, and what is reported is known."""
        for prefix, count in talk.seen.facts.items():
            self.assertEqual(count, talk.cloud.count(prefix))
        self.assertLessEqual(set(talk.reported.facts.items()), set(talk.seen.facts.items()))
        self.assertIs(talk.is_done(), is_enough(talk.seen, talk.box, talk.fineness))

    def check_end(self, talk):
        """Whether one report and one sending are enough once all letters come, in whatever order."""
        talk.report()
        while talk.letters:
            talk.deliver(len(talk.letters) // 2, False)
        self.assertEqual(talk.send(), len(fewest_facts(talk.cloud, talk.reported, talk.box, talk.fineness)))
        while talk.letters:
            talk.deliver(len(talk.letters) - 1, False)
        self.check_talk(talk)
        self.assertTrue(talk.is_done())

    def test_whatever_is_lost_doubled_or_comes_late(self):
        for dimensions, bits, many, fineness in ((1, 3, 3, 3), (2, 2, 5, 4), (2, 3, 20, 5), (3, 10, 12, 30), (3, 10, 80, 6)):
            space = Space(dimensions, bits)
            cloud = cloud_of(space, plain.unlike(many, 21, 2 ** space.depth))
            for seed in range(12):
                talk = Talk(cloud, Box(space, (1,) * dimensions, (space.side - 1,) * dimensions), fineness)
                for number in plain.unlike(25, seed, 8 * 10 ** 6):
                    self.step(talk, number)
                    self.check_talk(talk)
                self.check_end(talk)


if __name__ == "__main__":
    unittest.main()
