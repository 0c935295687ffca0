import unittest

from foreaft import errors


class TestErrors(unittest.TestCase):
    def kinds(self):
        return [errors.MachineError, errors.BookError, errors.PatternError, errors.RuleError]

    def test_base(self):
        self.assertTrue(issubclass(errors.ForeaftError, ValueError))
        self.assertEqual(str(errors.ForeaftError("told")), "told")

    def test_none_below_another(self):
        for kind in self.kinds():
            self.assertEqual(kind.__bases__, (errors.ForeaftError,))

    def test_reasons(self):
        for kind in (errors.MachineError, errors.BookError):
            error = kind("no such thing")
            self.assertEqual(error.reason, "no such thing")
            self.assertEqual(kind(reason="other").reason, "other")
            self.assertIn("no such thing", str(error))

    def test_pattern_error(self):
        error = errors.PatternError(12, "too long")
        self.assertEqual((error.place, error.reason), (12, "too long"))
        error = errors.PatternError(place=0, reason="unexpected")
        self.assertEqual((error.place, error.reason), (0, "unexpected"))

    def test_rule_error(self):
        error = errors.RuleError(6, 0, "too many rules")
        self.assertEqual((error.line, error.place, error.reason), (6, 0, "too many rules"))
        error = errors.RuleError(line=1, place=2, reason="too short")
        self.assertEqual((error.line, error.place, error.reason), (1, 2, "too short"))

    def test_raised(self):
        for error in (
            errors.MachineError("a"), errors.BookError("a"),
            errors.PatternError(0, "a"), errors.RuleError(0, 0, "a"),
        ):
            for base in (errors.ForeaftError, ValueError):
                with self.assertRaises(base) as caught:
                    raise error
                self.assertEqual(caught.exception.reason, "a")


if __name__ == "__main__":
    unittest.main()
