import unittest

from kinds import any_values
from takenup import errors

PARTS = (
    "BadMachine BadWords BadBlock BadProgram BadSum BadMap BadStand BadTarget BadPaper BadControl".split()
)
FIELDS = {
    **{name: ("part",) for name in PARTS},
    "NoAxis": ("axis",), "NoRegister": ("name",), "NoPlace": ("place",), "NoNode": ("place", "words"),
    "BadRun": ("at",), "BadPreamble": ("at",), "Stopped": ("place",), "Running": ("place",), "Nothing": (),
    "TooMany": ("what", "most"), "BadText": ("line", "word"), "BadLine": ("line", "error"),
}
BELOW_MISSING = ("NoAxis", "NoRegister", "NoPlace", "NoNode")


class ErrorsTest(unittest.TestCase):
    def test_which_class_lies_below_which(self):
        self.assertEqual((ValueError,), errors.ToolError.__bases__)
        self.assertEqual((errors.ToolError,), errors.Missing.__bases__)
        for name in FIELDS:
            kind = getattr(errors, name)
            above = errors.Missing if name in BELOW_MISSING else errors.ToolError
            self.assertEqual((above,), kind.__bases__, name)
            self.assertEqual("takenup.errors", kind.__module__)

    def test_fields_by_place_and_by_name(self):
        for name, fields in FIELDS.items():
            kind = getattr(errors, name)
            for value in any_values():
                given = [value] + ["other"] * (len(fields) - 1) if fields else []
                by_name = dict(zip(fields, given))
                for error in (kind(*given), kind(**by_name)):
                    self.assertEqual(set(fields), set(vars(error)))
                    for field, one in by_name.items():
                        self.assertIs(one, getattr(error, field))
                    self.assertIsInstance(str(error), str)

    def test_caught_as_value_error(self):
        with self.assertRaises(ValueError):
            raise errors.NoNode(3, "far")
        self.assertIsInstance(errors.ToolError(), ValueError)


if __name__ == "__main__":
    unittest.main()
