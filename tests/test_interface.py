import importlib
import inspect
import unittest

INTERFACE = {
    "words": ("top(w)", "compute(op, w, x, y)"),
    "programs": ("mentions(expression)", "is_name(text)", "statements(program)", "find_statement(program, path)"),
    "faults": ("faults(program)",),
    "text": ("show_program(program)", "show_expression(e)", "read_program(text)"),
    "values": ("value_of(w, e, look)",),
    "run": ("empty_store(program)", "is_store(program, value)", "run(program, store, *, fuel, backward=False)",
            "trace(program, store, *, fuel, backward=False)", "reached(program, stores, *, fuel)"),
    "inverse": ("inverse_body(body)", "inverse_statement(statement)", "inverse(program)"),
    "tidy": ("apply_step(program, step)", "check_steps(program, steps)", "tidy(program)"),
    "machine": ("machine_faults(value)", "step(machine, state)", "back(machine, state)",
                "run_machine(machine, state, *, fuel)", "run_back(machine, state, steps)",
                "compute_low(op, width, x, y)"),
    "listing": ("show_code(machine)", "read_code(text)"),
    "lower": ("compile_program(program, *, cells=4096)",),
    "frames": ("lay(program, build, store, cells)", "read_store(program, build, state)",
               "is_clean(program, build, state)"),
    "circuits": ("circuit_faults(value)", "run_circuit(circuit, bits)", "inverse_circuit(circuit)",
                 "then(first, second)", "on_wires(circuit, wires, places)", "counts(circuit)", "depth(circuit)",
                 "touched(circuit)"),
    "tables": ("as_number(bits)", "as_bits(number, wires)", "table(circuit)", "from_table(row)",
               "parting(first, second)"),
    "synth": ("can_synthesize(program)", "synthesize(program)", "store_bits(program, layout, store)",
              "bits_store(program, layout, bits)"),
    "adders": ("add_into(target, source, controls)", "less_into(wire, first, second, spare, controls)"),
    "steps": ("apply_step(circuit, step)", "apply_steps(circuit, steps)"),
    "shrink": ("cancelling(circuit)", "merging(circuit)", "shrink(circuit)"),
    "plain": ("plain_faults(value)", "run_plain(program, values, *, fuel)"),
    "embed": ("embed(program, room)",),
    "pebbles": ("is_pebbling(n, room, moves)", "least_moves(n, room)", "pebbling(n, room)", "chain_value(chain, word)",
                "chain_program(chain, moves, room)"),
    "packing": ("pack(value)", "unpack(data)"),
}

HOUSE = ("forward(self, count)", "back(self, count)", "where(self)", "store(self)", "ending(self)", "next_path(self)",
         "until(self, path, *, limit=10000)", "before(self, path, *, limit=10000)", "poke(self, name, value)")

ERRORS = ("BackrunError", "TextError", "StepError", "PackError", "ChainError", "CodeError",
          "NoCircuit")


class Interface(unittest.TestCase):
    def test_functions(self):
        for word, rows in INTERFACE.items():
            module = importlib.import_module("backrun." + word)
            for row in rows:
                name = row.split("(")[0]
                function = getattr(module, name)
                self.assertEqual(name + str(inspect.signature(function)), row)
                self.assertEqual(function.__module__, "backrun." + word)

    def test_the_house(self):
        house = importlib.import_module("backrun.house").House
        self.assertEqual(house.__module__, "backrun.house")
        self.assertEqual(str(inspect.signature(house)), "(program, store)")
        for row in HOUSE:
            name = row.split("(")[0]
            self.assertIn(name, vars(house))
            self.assertEqual(name + str(inspect.signature(vars(house)[name])), row)

    def test_the_ops(self):
        words = importlib.import_module("backrun.words").OPS
        machine = importlib.import_module("backrun.machine").OPS
        self.assertEqual((type(words), len(words)), (tuple, 10))
        self.assertEqual(type(machine), tuple)

    def test_errors(self):
        module = importlib.import_module("backrun.errors")
        for name in ERRORS:
            self.assertTrue(inspect.isclass(getattr(module, name)))
            self.assertEqual(getattr(module, name).__module__, "backrun.errors")
