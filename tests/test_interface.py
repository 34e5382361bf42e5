"""The interface: names, arguments and the files that define them."""

import ast
import importlib
import inspect
import pathlib
import unittest

ROOT = pathlib.Path(__file__).resolve().parent.parent

FUNCTIONS = {
    "orrery.space.intervals": {
        "add": "a b", "subtract": "a b", "negate": "a", "scaled": "a n", "multiply": "a b", "square": "a",
        "quotient": "a d", "root": "a", "meet": "a b", "hull": "a b", "widened": "a w", "middle": "a", "width": "a",
        "size": "a", "inside": "inner outer", "has": "a n",
    },
    "orrery.space.boxes": {
        "point_box": "point", "box_add": "a b", "box_subtract": "a b", "box_hull": "a b", "box_widened": "a w",
        "box_meet": "a b", "box_inside": "inner outer", "box_has": "box point", "box_middle": "box",
        "inner_product": "a b", "square_length": "box", "box_size": "box",
    },
    "orrery.forces.pull": {"pull": "body point", "pull_over": "body box"},
    "orrery.forces.motions": {
        "push_at": "craft at", "advance": "body place speed push", "first_breach": "body craft motion",
        "obeys": "body craft motion", "middle_motion": "body craft until",
    },
    "orrery.ways.parts": {
        "split": "state", "parts_of": "state fineness", "state_inside": "inner outer",
        "state_has": "state place speed",
    },
    "orrery.ways.steps": {"step": "body state push drift", "cut": "state box"},
    "orrery.ways.journeys": {"sighting_at": "craft at", "journey": "body fineness craft until"},
    "orrery.ways.courses": {"course": "contents craft until"},
    "orrery.meeting.meetings": {
        "gap": "first second", "root_up": "n", "meeting": "contents first second begin end distance",
        "closest": "contents first second begin end",
    },
    "orrery.meeting.screening": {"screen": "contents begin end distance"},
    "orrery.papers.lines": {
        "write_line": "words", "number_of": "word", "numbers_of": "words", "interval_of": "low high",
        "box_of": "numbers", "box_numbers": "box",
    },
    "orrery.papers.certificates": {"certify": "contents craft until", "certificate_text": "certificate"},
    "orrery.papers.reading": {"read_certificate": "text"},
    "orrery.papers.checker": {"refused_at": "certificate", "accepted": "certificate"},
    "orrery.data": {
        "craft_data": "craft", "body_data": "body", "contents_data": "contents", "same_craft": "first second",
    },
    "orrery.book.names": {"craft_of": "contents name", "site_of": "contents name"},
    "orrery.book.edits": {"apply_edit": "contents edit"},
    "orrery.book.differences": {"differences": "before after"},
    "orrery.book.saving": {"saved_text": "contents", "read_saved": "text"},
    "orrery.stations.turning": {"rounded": "interval divisor", "unit_power": "turn ticks"},
    "orrery.stations.sites": {"site_at": "body site tick", "site_over": "body site begin end"},
    "orrery.stations.passes": {
        "elevation": "box site_box mask", "passes": "contents craft site begin end mask",
    },
    "orrery.plans.contacts": {"plan": "contacts gap", "shows_best": "contacts gap choice prices"},
    "orrery.plans.networks": {"network": "contacts gap"},
    "orrery.plans.found": {"contacts_of": "contents begin end mask least weights"},
    "orrery.plans.avoiding": {"avoid": "contents name begin end distance keeps burns"},
    "orrery.questions.spans": {
        "joined": "spans", "common": "first second", "earlier_begins": "spans ticks", "later_ends": "spans ticks",
        "earlier_ends": "spans ticks", "later_begins": "spans ticks", "negated": "line", "both": "first second",
        "either": "first second", "soon": "ticks line", "ahead": "ticks line", "lately": "ticks line",
        "behind": "ticks line", "until": "ticks first second", "throughout": "line begin end",
        "first_tick": "line begin end", "rises": "line begin end",
    },
    "orrery.questions.quantities": {
        "combined": "word first second", "less": "first second", "at_most": "first second",
    },
    "orrery.questions.answers": {"ask": "contents text"},
    "orrery.needs.needs": {
        "halved": "interval count", "halved_craft": "craft what count",
        "need_far": "contents first second begin end distance", "need_thin": "contents craft at most",
        "need_pass": "contents craft site begin end mask",
    },
    "orrery.light.shadow": {
        "light_of": "box way radius", "way_over": "sun begin end", "light": "contents craft begin end radius sun",
    },
    "orrery.light.battery": {
        "charge_after": "battery charge spans",
        "charge": "contents craft begin end radius sun battery before",
    },
    "orrery.questions.tokens": {"tokens": "text"},
    "orrery.questions.expressions": {"parse_expression": "text", "expression_text": "expression"},
    "orrery.questions.reading": {"read_question": "text", "last_tick": "question"},
}

VALUES = {
    ("orrery.ways.steps", "LIMIT"): 10 ** 40,
    ("orrery.stations.turning", "SCALE"): 10 ** 18,
    ("orrery.stations.passes", "MOST_MASK"): 10 ** 9,
}

CLASSES = {
    "orrery.ways.parts": {"State": "place speed"},
    "orrery.ways.journeys": {"Moment": "at states", "Journey": "moments ending broken"},
    "orrery.ways.courses": {"Piece": "begin end parts", "Course": "pieces ending"},
    "orrery.data": {
        "Body": "mu oblateness turn", "Burn": "begin end push", "Sighting": "at place",
        "Craft": "name start place speed drift burns sightings", "Site": "name place",
        "Contents": "body stride fineness crafts sites",
    },
    "orrery.papers.certificates": {"Certificate": "body fineness craft claims"},
    "orrery.book.catalogue": {"Catalogue": "contents"},
}

METHODS = {
    "Moment": ["place", "speed"], "Journey": ["__iter__", "moment"], "Piece": ["during"], "Catalogue": ["edit", "undo"],
}


def defined(module):
    """The nodes of the functions and classes that a module itself defines, by name."""
    tree = ast.parse((ROOT / (module.replace(".", "/") + ".py")).read_text())
    return {node.name: node for node in tree.body if isinstance(node, (ast.FunctionDef, ast.ClassDef))}


class InterfaceTest(unittest.TestCase):
    def test_functions(self):
        for module, functions in FUNCTIONS.items():
            nodes = defined(module)
            for name, arguments in functions.items():
                self.assertIsInstance(nodes.get(name), ast.FunctionDef, (module, name))
                told = inspect.signature(getattr(importlib.import_module(module), name))
                self.assertEqual(list(told.parameters), arguments.split(), name)

    def test_values(self):
        for (module, name), value in VALUES.items():
            self.assertEqual(getattr(importlib.import_module(module), name), value)

    def test_classes(self):
        for module, classes in CLASSES.items():
            nodes = defined(module)
            for name, arguments in classes.items():
                self.assertIsInstance(nodes.get(name), ast.ClassDef, (module, name))
                told = inspect.signature(getattr(importlib.import_module(module), name))
                self.assertEqual(list(told.parameters), arguments.split(), name)
                body = [node.name for node in nodes[name].body if isinstance(node, ast.FunctionDef)]
                for method in METHODS.get(name, []):
                    self.assertIn(method, body)


if __name__ == "__main__":
    unittest.main()
