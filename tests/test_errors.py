import unittest

from wareplan.errors import NoFraction, PlanError
from wareplan.fractions import made, over
from wareplan.notes import read


class Refusals(unittest.TestCase):
    def test_classes_stand_under_one_another(self):
        self.assertEqual(PlanError.__bases__, (ValueError,))
        self.assertEqual(NoFraction.__bases__, (PlanError,))

    def test_every_refusal_is_taken_by_each_of_the_three(self):
        refused = (
            lambda: made(1, 0),
            lambda: over((1, 2), (0, 1)),
            lambda: read("4/2"),
        )
        for call in refused:
            for taker in (NoFraction, PlanError, ValueError):
                with self.assertRaises(taker) as caught:
                    call()
                self.assertIs(type(caught.exception), NoFraction)


if __name__ == "__main__":
    unittest.main()
