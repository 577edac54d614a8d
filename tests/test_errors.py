import unittest

from backrun.errors import BackrunError, ChainError, CodeError, NoCircuit, PackError, StepError, TextError


class Errors(unittest.TestCase):
    def test_the_base(self):
        self.assertTrue(issubclass(BackrunError, ValueError))
        for error in (TextError, StepError, PackError, ChainError, CodeError, NoCircuit):
            self.assertTrue(issubclass(error, BackrunError))
            self.assertIsNot(error, BackrunError)

    def test_they_are_different(self):
        for error in (TextError(0), PackError(0), StepError("no"), ChainError("no"), CodeError(1), NoCircuit("no")):
            others = [k for k in (TextError, StepError, PackError, ChainError, CodeError, NoCircuit) if k is not type(error)]
            self.assertFalse(any(isinstance(error, k) for k in others))

    def test_the_field_at(self):
        for at in (0, 1, 17, -1):
            self.assertEqual(TextError(at).at, at)
            self.assertEqual(PackError(at).at, at)

    def test_the_field_line(self):
        for line in (1, 2, 17):
            self.assertEqual(CodeError(line).line, line)

    def test_they_are_caught_by_the_base(self):
        for error in (TextError(3), PackError(-1), StepError("no"), ChainError("no"), CodeError(1), NoCircuit("no")):
            with self.assertRaises(BackrunError):
                raise error
            with self.assertRaises(ValueError):
                raise error
