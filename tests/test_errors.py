"""Point [18], and the errors of the later chapters."""

import unittest

from finecloud.errors import BadCode, BadPiece, BadPoint, BadSpace, CloudError
from finecloud.storeerrors import BadCut, BadVersion
from finecloud.texterrors import BadText


class Errors(unittest.TestCase):
    def test_base(self):
        self.assertEqual(CloudError.__bases__, (Exception,))

    def test_all_are_directly_below(self):
        for kind in (BadSpace, BadPoint, BadCode, BadPiece, BadVersion, BadCut, BadText):
            self.assertEqual(kind.__bases__, (CloudError,))

    def test_arguments_are_attributes(self):
        for word in ("dimensions", "bits"):
            self.assertEqual(BadSpace(word).word, word)
        for point in ((1, 2), [3], None):
            self.assertEqual(BadPoint(point).point, point)
        self.assertEqual(BadCode(17).many, 17)
        self.assertEqual(BadPiece((2, 3)).prefix, (2, 3))
        self.assertEqual((BadVersion(7).number, BadVersion(None).number), (7, None))
        self.assertEqual((BadCut(-1).place, BadCut("x").place), (-1, "x"))
        self.assertEqual((BadText(3, 0).line, BadText(3, 0).word), (3, 0))

    def test_arguments_by_their_names(self):
        self.assertEqual(BadSpace(word="bits").word, "bits")
        self.assertEqual(BadPoint(point=(0,)).point, (0,))
        self.assertEqual(BadCode(many=0).many, 0)
        self.assertEqual(BadPiece(prefix=(0, 0)).prefix, (0, 0))
        self.assertEqual((BadVersion(number=0).number, BadCut(place=0).place), (0, 0))
        self.assertEqual((BadText(word=1, line=2).line, BadText(line=1, word=2).word), (2, 2))

    def test_they_are_caught_as_cloud_errors(self):
        with self.assertRaises(CloudError):
            raise BadPiece((0, 0))


if __name__ == "__main__":
    unittest.main()
