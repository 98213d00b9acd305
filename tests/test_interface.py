"""The interface's sections: names, arguments, the files of the definitions, and the examples."""

import doctest
import importlib
import inspect
import pathlib
import unittest

from fracwalk import machines

# The signatures as the interface writes them, by file.
SIGNATURES = {
    "fracwalk.errors": [
        "NotAMove(value)",
        "NotAValue(value)",
        "NotAWord(value)",
        "NotReduced(word)",
        "InvalidProgram(path)",
        "ParseError(line)",
        "UnknownPlace(place)",
        "UnknownEdge(number)",
        "UnknownCheckpoint(number)",
        "UnknownRecord(number)",
        "WrongPlace(number)",
        "LimitExceeded(limit)",
    ],
    "fracwalk.moves": [
        "require_move(value)",
        "require_value(value)",
        "product(first, then)",
        "inverse_move(move)",
        "act(move, value)",
    ],
    "fracwalk.words": [
        "multiply_kinds(one, other)",
        "require_word(value)",
        "reduce_word(word)",
        "join_words(one, other)",
        "inverse_word(word)",
        "move_of(word)",
        "word_of(move, *, limit=60)",
        "value_of(word)",
        "value_word(value, *, limit=60)",
    ],
    "fracwalk.machines": [
        "Machine(places)",
        "System(states, steps, start)",
        "machine_of(places, edges, following)",
    ],
    "fracwalk.tables": [
        "least_table(system)",
        "is_closed(table, system)",
        "reading_cost(table, system, word, state)",
    ],
    "fracwalk.derivations": [
        "derivation_cost(derivation, system, word, state)",
        "write_route(derivation, system, *, limit)",
    ],
}

# The methods of classes, as the interface writes them.
METHODS = {
    machines.Machine: [
        "add_edge(start, end, word, cost)",
        "remove_edge(number)",
        "reroute_edge(number, start, end)",
        "edges()",
        "next_number()",
        "twin()",
        "run_route(place, route)",
        "system(place)",
        "value_system(place, value)",
    ],
}

EXAMPLES = """
>>> from fracwalk.moves import product
>>> product((1, 1, 0, 1), (0, 1, -1, 0))
(0, 1, -1, -1)
>>> from fracwalk.moves import act
>>> act((0, 1, -1, 0), (2, 3))
(-3, 2)
>>> from fracwalk.words import reduce_word
>>> reduce_word("rrssR")
'r'
>>> from fracwalk.words import join_words
>>> join_words("rs", "sr")
'R'
>>> from fracwalk.words import move_of
>>> move_of("rs")
(1, 1, 0, 1)
>>> from fracwalk.words import word_of
>>> word_of((1, -1, 0, 1))
'sR'
>>> from fracwalk.words import value_of
>>> value_of("srsr")
(-1, 2)
>>> from fracwalk.words import value_word
>>> value_word((1, 2))
'srsRs'
>>> from fracwalk.machines import Machine
>>> machine = Machine(2)
>>> first = machine.add_edge(0, 1, "rs", 2)
>>> second = machine.add_edge(1, 0, "sR", 1)
>>> machine.run_route(0, (0, 1))
(0, '', 3)
>>> from fracwalk.machines import Machine
>>> machine = Machine(2)
>>> first = machine.add_edge(0, 1, "rs", 2)
>>> second = machine.add_edge(1, 0, "sR", 1)
>>> machine.system(0).states
((-1, 0), (-1, 1), (0, 1), (1, 1))
>>> from fracwalk.machines import Machine
>>> from fracwalk.tables import least_table, reading_cost
>>> machine = Machine(2)
>>> first = machine.add_edge(0, 1, "rs", 2)
>>> second = machine.add_edge(1, 0, "sR", 1)
>>> system = machine.system(0)
>>> table, items, found = least_table(system)
>>> reading_cost(table, system, "rs", (-1, 1))
2
>>> from fracwalk.machines import Machine
>>> from fracwalk.derivations import derivation_cost
>>> machine = Machine(2)
>>> first = machine.add_edge(0, 1, "rs", 2)
>>> second = machine.add_edge(1, 0, "sR", 1)
>>> items = (("r", (-1, 0), (0, 1), ("step", 0, 0)), ("s", (0, 1), (-1, 1), ("step", 0, 1)))
>>> derivation_cost((items, (0, 1)), machine.system(0), "rs", (-1, 1))
2
"""


class Interface(unittest.TestCase):
    def test_signatures(self):
        for file, signatures in SIGNATURES.items():
            module = importlib.import_module(file)
            for signature in signatures:
                with self.subTest(signature, file=file):
                    name = signature.partition("(")[0]
                    thing = getattr(module, name)
                    self.assertEqual(name + str(inspect.signature(thing)), signature)

    def test_defined_in_their_files(self):
        for file, signatures in SIGNATURES.items():
            module = importlib.import_module(file)
            for signature in signatures:
                with self.subTest(signature, file=file):
                    thing = getattr(module, signature.partition("(")[0])
                    self.assertEqual(thing.__module__, file)

    def test_methods_stand_in_their_classes(self):
        for owner, signatures in METHODS.items():
            for signature in signatures:
                with self.subTest(signature, owner=owner.__name__):
                    name = signature.partition("(")[0]
                    found = str(inspect.signature(vars(owner)[name]))
                    self.assertEqual(name + found.replace("(self, ", "(").replace("(self)", "()"), signature)
        self.assertIn("__len__", vars(machines.Machine))

    def assert_examples(self, text, attempted):
        examples = doctest.DocTestParser().get_doctest(text, {}, "examples", None, None)
        told = []
        runner = doctest.DocTestRunner(verbose=False)
        runner.run(examples, out=told.append)
        self.assertEqual("".join(told), "")
        self.assertEqual(runner.summarize(verbose=False).attempted, attempted)

    def test_examples(self):
        self.assert_examples(EXAMPLES, 41)

    def test_examples_of_the_readme(self):
        readme = pathlib.Path(__file__).resolve().parent.parent / "README.md"
        text = readme.read_text(encoding="utf-8")
        self.assert_examples(text, text.count(">>> "))


if __name__ == "__main__":
    unittest.main()
