"""What the interface says of all functions together."""

import builtins
import copy
import inspect
import io
import sys
import unittest
from unittest import mock

from lensbits import doubles, lenses
from tests.bits import ONE, bits_of
from tests.samples import DOUBLET, words, words_of

PARAMETERS = {
    "index": ["wave", "glass"],
    "near": ["outer", "surfaces"],
    "ray": ["outer", "surfaces", "beam"],
    "spot": ["outer", "size", "m", "surfaces", "way"],
    "focus": ["outer", "size", "m", "steps", "surfaces", "way"],
}

WAY = words([0.02, 0.03, 0.99935])

CALLS = {
    "index": (ONE, words([1.0, 0.2, 1.0, 0.006, 0.02, 103.0])),
    "near": (ONE, words_of(DOUBLET)),
    "ray": (ONE, words_of(DOUBLET), words([1.0, 2.0, 0.0]) + WAY),
    "spot": (ONE, bits_of(9.0), 3, words_of(DOUBLET), WAY),
    "focus": (ONE, bits_of(9.0), 3, 4, words_of(DOUBLET), WAY),
}


def answers(names):
    return {name: getattr(lenses, name)(*copy.deepcopy(CALLS[name])) for name in names}


def kept():
    """All that lies at the top of the package's files, as it is now."""
    values = {}
    for module in (lenses, doubles):
        for name, value in vars(module).items():
            if not name.startswith("__"):
                values[module.__name__, name] = copy.deepcopy(value)
    return values


class Interface(unittest.TestCase):
    def test_parameters(self):
        for name, parameters in PARAMETERS.items():
            signature = inspect.signature(getattr(lenses, name))
            self.assertEqual(list(signature.parameters), parameters, name)
            for parameter in signature.parameters.values():
                self.assertIs(parameter.default, inspect.Parameter.empty)
                self.assertIs(parameter.kind, inspect.Parameter.POSITIONAL_OR_KEYWORD)

    def test_nothing_is_printed_and_nothing_is_read(self):
        before = answers(PARAMETERS)
        refuse = mock.Mock(side_effect=AssertionError("it reads"))
        with mock.patch.object(sys, "stdin", None), mock.patch.object(builtins, "open", refuse), \
                mock.patch.object(builtins, "input", refuse), \
                mock.patch.object(sys, "stdout", io.StringIO()) as printed, \
                mock.patch.object(sys, "stderr", printed):
            told = answers(PARAMETERS)
        self.assertEqual(told, before)
        self.assertEqual(printed.getvalue(), "")

    def test_nothing_is_kept(self):
        before = kept()
        first = answers(PARAMETERS)
        self.assertEqual(kept(), before)
        again = answers(reversed(list(PARAMETERS)))
        self.assertEqual(again, first)
        for name in PARAMETERS:
            self.assertIsNone(getattr(lenses, name).__closure__)
            self.assertEqual(vars(getattr(lenses, name)), {})

    def test_every_call_answers(self):
        for name, told in answers(PARAMETERS).items():
            self.assertEqual(told[0], 9 if name == "spot" else 0, name)


if __name__ == "__main__":
    unittest.main()
