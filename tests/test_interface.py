"""The interface of the document: names, arguments, and the files in which they are defined."""

import ast
import importlib
import inspect
import pathlib
import unittest

PACKAGE = pathlib.Path(__file__).resolve().parent.parent / "classprimes"
FUNCTIONS = {
    "discriminants": {"is_discriminant": "value", "parts_of": "discriminant", "symbol": "discriminant number"},
    "forms": {
        "is_form": "value", "discriminant_of": "form", "value_of": "form x y", "changed": "form change",
        "reduced": "form", "change_between": "form other", "are_alike": "form other", "opposite": "form",
        "automorphs": "form", "classes": "discriminant", "first_form": "discriminant"},
    "values": {"solutions": "form number", "solutions_of_all": "discriminant number"},
    "composing": {
        "composed": "form other", "composing_numbers": "form other", "power": "form count", "order_of": "form",
        "kind_of": "discriminant", "own_opposites": "discriminant", "squares": "discriminant"},
    "genera": {
        "residues_of": "form", "genera": "discriminant", "do_residues_tell": "discriminant",
        "twins": "discriminant number"},
    "primes": {
        "classes_of": "discriminant prime", "order_at": "discriminant prime", "is_taken": "form prime",
        "first_prime": "form"},
    "singular": {"invariant": "form count", "class_polynomial": "discriminant"},
    "falling": {
        "factors": "discriminant prime", "roots": "discriminant prime", "does_fall_wholly": "discriminant prime"},
    "steps": {"phi": "step x y", "rings": "discriminant prime step"},
    "counts": {"hurwitz": "number"},
    "curves": {
        "points_of": "prime curve", "invariant_of": "prime curve", "curve_with": "prime number",
        "curves_with": "prime number", "discriminant_of_curve": "prime curve"},
    "texts": {"form_text": "form", "read_form": "text", "read_product": "text"},
    "console": {"run": "lines"},
    "checker": {"accepts": "claim paper"},
    "certificates": {
        "certify_alike": "form other", "certify_composed": "form other", "certify_order_of": "form",
        "certify_taken": "form prime", "certify_residues": "discriminant", "certify_twins": "discriminant number",
        "certify_polynomial": "discriminant", "certify_order": "discriminant prime",
        "certify_falls": "discriminant prime", "certify_rings": "discriminant prime step"},
}
ERRORS = {
    "InvalidDiscriminant": "given", "InvalidForm": "given", "InvalidChange": "given", "InvalidNumber": "given",
    "InvalidPrime": "given", "InvalidStep": "given", "InvalidCurve": "given", "OtherDiscriminant": "given",
    "Divides": "given", "NoSquare": "given", "NotFirst": "given", "InvalidLines": "index", "BadText": "spot"}


def defined_in(module):
    """The names that the file itself defines by def or class at module level."""
    tree = ast.parse((PACKAGE / f"{module}.py").read_text())
    return [node.name for node in tree.body if isinstance(node, (ast.FunctionDef, ast.ClassDef))]


class InterfaceTest(unittest.TestCase):
    def test_functions(self):
        for name, functions in FUNCTIONS.items():
            module = importlib.import_module(f"classprimes.{name}")
            for function, arguments in functions.items():
                self.assertIn(function, defined_in(name))
                parameters = inspect.signature(getattr(module, function)).parameters.values()
                self.assertEqual([parameter.name for parameter in parameters], arguments.split())
                for parameter in parameters:
                    self.assertEqual(parameter.kind, parameter.POSITIONAL_OR_KEYWORD)

    def test_errors(self):
        module = importlib.import_module("classprimes.errors")
        self.assertLessEqual({"ClassError"} | set(ERRORS), set(defined_in("errors")))
        for name, attribute in ERRORS.items():
            self.assertEqual(list(inspect.signature(getattr(module, name)).parameters), [attribute])
