"""[2] the classes of the refusals."""

import unittest

from ownclocks.errors import NoMeasure, NoRow, NoStation, WorksError
from ownclocks.works import read

OTHERS = (NoRow, NoStation, NoMeasure)


class Errors(unittest.TestCase):
    def test_all_stand_under_works_error(self):
        self.assertTrue(issubclass(WorksError, ValueError))
        for error in OTHERS:
            self.assertTrue(issubclass(error, WorksError))
            self.assertIsNot(error, WorksError)

    def test_none_stands_under_another_one(self):
        for one in OTHERS:
            for other in OTHERS:
                self.assertEqual(issubclass(one, other), one is other)

    def test_a_refusal_is_raised_as_its_very_class(self):
        for text, error in (
            ("", NoRow),
            ("station sink\nfeed 1 0 0", NoStation),
            ("station sink\nfeed 0 51 0", NoMeasure),
        ):
            with self.assertRaises(WorksError) as caught:
                read(text)
            self.assertIs(type(caught.exception), error)


if __name__ == "__main__":
    unittest.main()
