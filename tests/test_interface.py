import ast
import inspect
import importlib
import pathlib
import unittest

PACKAGE = pathlib.Path(__file__).resolve().parent.parent / "ownback"
INTERFACE = {
    "errors": "OwnError BadOctets BadMachine BadHistory BadTable BadText Refused Broken TooGreat NoHand NoDeed NoBoard",
    "forms": "is_press(value) check_press(value) press_octets(press) write_presses(presses) press_at(octets,at) "
             "read_presses(octets) healing(octets)",
    "machines": "check_machine(value) board_count(machine) deed_count(machine) led(machine,board,deeds) "
                "boards_come(machine) come_by(machine,board) names_come(machine) trimmed(machine) "
                "same_but_names(machine,other) machine_octets(machine) machine_at(octets,at)",
    "lots": "led_lot(machine,lot,deed) like_on(machine,lot,deed) least_on(machine,lot,deed) kinds_on(machine,lot) "
            "unlike_at(machine,one,other) doing(machine,pairs) done_pairs(machine,lot,deed) "
            "commute_at(machine,board,one,other)",
    "looks": "check_looks(machine,looks) alike_boards(machine,looks) parting_deeds(machine,looks,one,other) "
             "least_machine(machine,looks) parting_row(machine,looks,other,others) "
             "look_alike(machine,looks,other,others)",
}


class Interface(unittest.TestCase):
    """Each name is defined in the file under which it is listed, with the arguments that are told."""

    def test_defined_in_the_file_itself(self):
        for module, names in INTERFACE.items():
            tree = ast.parse((PACKAGE / (module + ".py")).read_text(encoding="utf-8"))
            defined = [node.name for node in tree.body if isinstance(node, (ast.FunctionDef, ast.ClassDef))]
            for name in names.split():
                self.assertIn(name.partition("(")[0], defined, module)

    def test_arguments(self):
        for module, names in INTERFACE.items():
            found = importlib.import_module("ownback." + module)
            for told in names.split():
                name, _, given = told.partition("(")
                if given:
                    signature = str(inspect.signature(getattr(found, name))).replace(" ", "")
                    self.assertEqual(signature, "(" + given, name)
