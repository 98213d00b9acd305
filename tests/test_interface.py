"""The interface's sections: names, arguments, the files of the definitions, and the examples."""

import doctest
import importlib
import inspect
import unittest

# The signatures as the interface writes them, by file.
SIGNATURES = {
    "fracwalk.errors": [
        "NotAMove(value)",
        "NotAValue(value)",
        "NotAWord(value)",
        "NotReduced(word)",
        "InvalidProgram(path)",
        "ParseError(line)",
        "UnknownPlace(place)",
        "UnknownEdge(number)",
        "UnknownCheckpoint(number)",
        "UnknownRecord(number)",
        "WrongPlace(number)",
        "LimitExceeded(limit)",
    ],
    "fracwalk.moves": [
        "require_move(value)",
        "require_value(value)",
        "product(first, then)",
        "inverse_move(move)",
        "act(move, value)",
    ],
    "fracwalk.words": [
        "multiply_kinds(one, other)",
        "require_word(value)",
        "reduce_word(word)",
        "join_words(one, other)",
        "inverse_word(word)",
        "move_of(word)",
        "word_of(move, *, limit=60)",
        "value_of(word)",
        "value_word(value, *, limit=60)",
    ],
}

EXAMPLES = """
>>> from fracwalk.moves import product
>>> product((1, 1, 0, 1), (0, 1, -1, 0))
(0, 1, -1, -1)
>>> from fracwalk.moves import act
>>> act((0, 1, -1, 0), (2, 3))
(-3, 2)
>>> from fracwalk.words import reduce_word
>>> reduce_word("rrssR")
'r'
>>> from fracwalk.words import join_words
>>> join_words("rs", "sr")
'R'
>>> from fracwalk.words import move_of
>>> move_of("rs")
(1, 1, 0, 1)
>>> from fracwalk.words import word_of
>>> word_of((1, -1, 0, 1))
'sR'
>>> from fracwalk.words import value_of
>>> value_of("srsr")
(-1, 2)
>>> from fracwalk.words import value_word
>>> value_word((1, 2))
'srsRs'
"""


class Interface(unittest.TestCase):
    def test_signatures(self):
        for file, signatures in SIGNATURES.items():
            module = importlib.import_module(file)
            for signature in signatures:
                with self.subTest(signature, file=file):
                    name = signature.partition("(")[0]
                    thing = getattr(module, name)
                    self.assertEqual(name + str(inspect.signature(thing)), signature)

    def test_defined_in_their_files(self):
        for file, signatures in SIGNATURES.items():
            module = importlib.import_module(file)
            for signature in signatures:
                with self.subTest(signature, file=file):
                    thing = getattr(module, signature.partition("(")[0])
                    self.assertEqual(thing.__module__, file)

    def test_examples(self):
        examples = doctest.DocTestParser().get_doctest(EXAMPLES, {}, "examples", None, None)
        told = []
        runner = doctest.DocTestRunner(verbose=False)
        runner.run(examples, out=told.append)
        self.assertEqual("".join(told), "")
        self.assertEqual(runner.summarize(verbose=False).attempted, 16)


if __name__ == "__main__":
    unittest.main()
