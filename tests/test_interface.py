"""The interface's sections: names, arguments, the files of the definitions, and the examples."""

import doctest
import importlib
import inspect
import pathlib
import unittest

from fracwalk import machines, sessions

# The signatures as the interface writes them, by file.
SIGNATURES = {
    "fracwalk.errors": [
        "NotAMove(value)",
        "NotAValue(value)",
        "NotAWord(value)",
        "NotReduced(word)",
        "InvalidProgram(path)",
        "ParseError(line)",
        "UnknownPlace(place)",
        "UnknownEdge(number)",
        "UnknownCheckpoint(number)",
        "UnknownRecord(number)",
        "WrongPlace(number)",
        "LimitExceeded(limit)",
    ],
    "fracwalk.moves": [
        "require_move(value)",
        "require_value(value)",
        "product(first, then)",
        "inverse_move(move)",
        "act(move, value)",
    ],
    "fracwalk.words": [
        "multiply_kinds(one, other)",
        "require_word(value)",
        "reduce_word(word)",
        "join_words(one, other)",
        "inverse_word(word)",
        "move_of(word)",
        "word_of(move, *, limit=60)",
        "value_of(word)",
        "value_word(value, *, limit=60)",
    ],
    "fracwalk.machines": [
        "Machine(places)",
        "System(states, steps, start)",
        "machine_of(places, edges, following)",
    ],
    "fracwalk.tables": [
        "least_table(system)",
        "is_closed(table, system)",
        "reading_cost(table, system, word, state)",
    ],
    "fracwalk.derivations": [
        "derivation_cost(derivation, system, word, state)",
        "write_route(derivation, system, *, limit)",
    ],
    "fracwalk.questions": [
        "ask_move(machine, start, place, word)",
        "check_move(machine, start, place, word, verdict)",
    ],
    "fracwalk.valuequestions": [
        "ask_value(machine, start, value, place, target)",
        "check_value(machine, start, value, place, target, verdict)",
    ],
    "fracwalk.sets": [
        "list_set(part, *, limit)",
        "check_list(part, verdict)",
    ],
    "fracwalk.comparisons": [
        "contained(one, other)",
        "met(one, other)",
        "check_contained(one, other, verdict)",
        "check_met(one, other, verdict)",
    ],
    "fracwalk.programs": [
        "require_program(program, parts)",
        "compile_program(program, parts)",
        "trace_word(program, parts, trace)",
        "route_of_trace(program, parts, trace)",
        "trace_of_route(program, parts, route)",
    ],
    "fracwalk.sessions": [
        "Walker(machine, place, value)",
    ],
    "fracwalk.formats": [
        "format_machine(machine)",
        "format_value(value)",
        "parse_machine(text)",
        "parse_value(text)",
    ],
}

# The methods of classes, as the interface writes them.
METHODS = {
    machines.Machine: [
        "add_edge(start, end, word, cost)",
        "remove_edge(number)",
        "reroute_edge(number, start, end)",
        "edges()",
        "next_number()",
        "twin()",
        "run_route(place, route)",
        "system(place)",
        "value_system(place, value)",
    ],
    sessions.Walker: [
        "take(number)",
        "add_edge(start, end, word, cost)",
        "remove_edge(number)",
        "reroute_edge(number, start, end)",
        "edges()",
        "checkpoint()",
        "restore(number)",
        "ask_move(place, word)",
        "ask_value(place, target)",
        "record_move(place, word)",
        "record_value(place, target)",
        "recorded(number)",
        "halves(number)",
    ],
}

EXAMPLES = """
>>> from fracwalk.moves import product
>>> product((1, 1, 0, 1), (0, 1, -1, 0))
(0, 1, -1, -1)
>>> from fracwalk.moves import act
>>> act((0, 1, -1, 0), (2, 3))
(-3, 2)
>>> from fracwalk.words import reduce_word
>>> reduce_word("rrssR")
'r'
>>> from fracwalk.words import join_words
>>> join_words("rs", "sr")
'R'
>>> from fracwalk.words import move_of
>>> move_of("rs")
(1, 1, 0, 1)
>>> from fracwalk.words import word_of
>>> word_of((1, -1, 0, 1))
'sR'
>>> from fracwalk.words import value_of
>>> value_of("srsr")
(-1, 2)
>>> from fracwalk.words import value_word
>>> value_word((1, 2))
'srsRs'
>>> from fracwalk.machines import Machine
>>> machine = Machine(2)
>>> first = machine.add_edge(0, 1, "rs", 2)
>>> second = machine.add_edge(1, 0, "sR", 1)
>>> machine.run_route(0, (0, 1))
(0, '', 3)
>>> from fracwalk.machines import Machine
>>> machine = Machine(2)
>>> first = machine.add_edge(0, 1, "rs", 2)
>>> second = machine.add_edge(1, 0, "sR", 1)
>>> machine.system(0).states
((-1, 0), (-1, 1), (0, 1), (1, 1))
>>> from fracwalk.machines import Machine
>>> from fracwalk.tables import least_table, reading_cost
>>> machine = Machine(2)
>>> first = machine.add_edge(0, 1, "rs", 2)
>>> second = machine.add_edge(1, 0, "sR", 1)
>>> system = machine.system(0)
>>> table, items, found = least_table(system)
>>> reading_cost(table, system, "rs", (-1, 1))
2
>>> from fracwalk.machines import Machine
>>> from fracwalk.derivations import derivation_cost
>>> machine = Machine(2)
>>> first = machine.add_edge(0, 1, "rs", 2)
>>> second = machine.add_edge(1, 0, "sR", 1)
>>> items = (("r", (-1, 0), (0, 1), ("step", 0, 0)), ("s", (0, 1), (-1, 1), ("step", 0, 1)))
>>> derivation_cost((items, (0, 1)), machine.system(0), "rs", (-1, 1))
2
>>> from fracwalk.machines import Machine
>>> from fracwalk.questions import ask_move
>>> machine = Machine(2)
>>> first = machine.add_edge(0, 1, "rs", 2)
>>> second = machine.add_edge(1, 0, "sR", 1)
>>> (ask_move(machine, 0, 1, "rs")[:2], ask_move(machine, 0, 1, "rsrs")[0])
(('reached', 2), 'barred')
>>> from fracwalk.machines import Machine
>>> from fracwalk.valuequestions import ask_value
>>> machine = Machine(2)
>>> first = machine.add_edge(0, 1, "rs", 2)
>>> second = machine.add_edge(1, 0, "sR", 1)
>>> ask_value(machine, 0, (0, 1), 1, (1, 1))[:2]
('reached', 2)
>>> from fracwalk.machines import Machine
>>> from fracwalk.sets import list_set
>>> machine = Machine(2)
>>> first = machine.add_edge(0, 1, "rs", 2)
>>> second = machine.add_edge(1, 0, "sR", 1)
>>> list_set(("moves", machine, 0, 1), limit=10)[:2]
('finite', ('rs',))
>>> from fracwalk.machines import Machine
>>> from fracwalk.sets import list_set
>>> machine = Machine(1)
>>> loop = machine.add_edge(0, 0, "rs", 1)
>>> list_set(("moves", machine, 0, 0), limit=10)[0]
'endless'
>>> from fracwalk.machines import Machine
>>> from fracwalk.comparisons import contained
>>> machine = Machine(1)
>>> loop = machine.add_edge(0, 0, "rs", 1)
>>> contained(("moves", machine, 0, 0), ("moves", Machine(1), 0, 0))[:2]
('parted', 'rs')
>>> from fracwalk.programs import compile_program
>>> compile_program(("repeat", ("move", "rs", 1)), {}).edges()
{0: (0, 2, '', 0), 1: (2, 2, 'rs', 1), 2: (2, 1, '', 0)}
>>> from fracwalk.programs import trace_word
>>> trace_word(("repeat", ("move", "rs", 1)), {}, ("repeat", (("move",), ("move",))))
('rsrs', 2)
>>> from fracwalk.machines import Machine
>>> from fracwalk.sessions import Walker
>>> machine = Machine(2)
>>> first = machine.add_edge(0, 1, "rs", 2)
>>> second = machine.add_edge(1, 0, "sR", 1)
>>> walker = Walker(machine, 0, (0, 1))
>>> walker.take(0)
>>> (walker.place, walker.value)
(1, (1, 1))
>>> from fracwalk.machines import Machine
>>> from fracwalk.sessions import Walker
>>> walker = Walker(Machine(2), 0, (0, 1))
>>> first = walker.add_edge(0, 1, "rs", 2)
>>> number = walker.record_move(1, "rs")
>>> before = walker.halves(number)
>>> second = walker.add_edge(0, 1, "rs", 1)
>>> (before, walker.halves(number))
((True, True), (True, False))
>>> from fracwalk.machines import Machine
>>> from fracwalk.formats import format_machine
>>> machine = Machine(1)
>>> loop = machine.add_edge(0, 0, "rs", 1)
>>> format_machine(machine)
'places 1\\nedge 0 0 0 rs 1\\nnext 1\\n'
>>> from fracwalk.formats import format_value
>>> format_value((-3, 2))
'-3/2'
"""


class Interface(unittest.TestCase):
    def test_signatures(self):
        for file, signatures in SIGNATURES.items():
            module = importlib.import_module(file)
            for signature in signatures:
                with self.subTest(signature, file=file):
                    name = signature.partition("(")[0]
                    thing = getattr(module, name)
                    self.assertEqual(name + str(inspect.signature(thing)), signature)

    def test_defined_in_their_files(self):
        for file, signatures in SIGNATURES.items():
            module = importlib.import_module(file)
            for signature in signatures:
                with self.subTest(signature, file=file):
                    thing = getattr(module, signature.partition("(")[0])
                    self.assertEqual(thing.__module__, file)

    def test_methods_stand_in_their_classes(self):
        for owner, signatures in METHODS.items():
            for signature in signatures:
                with self.subTest(signature, owner=owner.__name__):
                    name = signature.partition("(")[0]
                    found = str(inspect.signature(vars(owner)[name]))
                    self.assertEqual(name + found.replace("(self, ", "(").replace("(self)", "()"), signature)
        self.assertIn("__len__", vars(machines.Machine))

    def assert_examples(self, text, attempted):
        examples = doctest.DocTestParser().get_doctest(text, {}, "examples", None, None)
        told = []
        runner = doctest.DocTestRunner(verbose=False)
        runner.run(examples, out=told.append)
        self.assertEqual("".join(told), "")
        self.assertEqual(runner.summarize(verbose=False).attempted, attempted)

    def test_examples(self):
        self.assert_examples(EXAMPLES, 96)

    def test_examples_of_the_readme(self):
        readme = pathlib.Path(__file__).resolve().parent.parent / "README.md"
        text = readme.read_text(encoding="utf-8")
        self.assert_examples(text, text.count(">>> "))


if __name__ == "__main__":
    unittest.main()
