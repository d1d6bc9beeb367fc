"""Promise [5]: the errors."""

import unittest

from tautrounds import errors

OF_A_PART = {
    "BadNumber": "part", "BadSkin": "part", "BadRounds": "part", "BadDrawing": "part", "BadBundle": "part",
    "BadFan": "part", "BadLive": "part", "NoMark": "name", "BadText": "at", "TooMany": "most",
}
OF_A_MESSAGE = [
    "BadWord", "BadRound", "BadStrand", "BadSum", "BadImages", "BadBridge", "NotSimple", "BadDeed", "NotNow", "BadName",
]


class ErrorsTest(unittest.TestCase):
    def test_all_stand_directly_below_round_error(self):
        self.assertEqual(errors.RoundError.__bases__, (ValueError,))
        for name in list(OF_A_PART) + OF_A_MESSAGE:
            self.assertEqual(getattr(errors, name).__bases__, (errors.RoundError,), name)

    def test_parts_may_be_any_value(self):
        thing = object()
        for name, attribute in OF_A_PART.items():
            for part in [None, "list", 7, 10 ** 5000, True, (1, [2]), {"a": 1}, thing]:
                by_place = getattr(errors, name)(part)
                by_name = getattr(errors, name)(**{attribute: part})
                self.assertIs(getattr(by_place, attribute), part)
                self.assertIs(getattr(by_name, attribute), part)

    def test_a_part_is_wanted(self):
        for name in OF_A_PART:
            self.assertRaises(TypeError, getattr(errors, name))

    def test_a_part_is_shown(self):
        self.assertEqual(str(errors.BadNumber("end")), "end")

    def test_others_are_made_of_a_message(self):
        for name in OF_A_MESSAGE + ["RoundError"]:
            self.assertEqual(str(getattr(errors, name)("what is wrong")), "what is wrong")


if __name__ == "__main__":
    unittest.main()
