"""The interface: each name that it lists exists in its module, with the arguments that it lists."""

import importlib
import inspect
import unittest

LISTED = {
    "halls": """
        is_hall(thing) is_stand(hall, thing) is_beat(hall, thing) is_plan(hall, thing) full(hall) bare(hall)
    """,
    "beats": """
        by_beat(hall, stand, beat) by_plan(hall, stand, plan, beats) comes_round(hall, stand, plan)
    """,
    "kept": """
        kept_from(hall, stand, plan) can_be_kept(hall, plan) greatest(hall, plan)
    """,
    "lost": """
        lost_paper(hall, plan, thing) lost_shown(hall, plan, thing, paper)
    """,
    "least": """
        least_from(hall, plan, thing)
    """,
    "lessons": """
        lessons(hall, stand, wish) is_shown(hall, stand, wish, paper)
    """,
    "orders": """
        ends(hall, stand, beat) are_free(hall, meeting, second) ahead(hall, stand, beat)
    """,
    "plans": """
        parted(hall, one, other)
    """,
}


class TestInterface(unittest.TestCase):
    def test_names_and_arguments(self):
        for name, text in LISTED.items():
            module = importlib.import_module("lorehall." + name)
            # Without the blanks behind commas each name stands in one piece with its arguments.
            for listed in text.replace(", ", ",").split():
                word, _, arguments = listed.rstrip(")").partition("(")
                function = getattr(module, word)
                self.assertTrue(inspect.isfunction(function), listed)
                self.assertEqual(function.__module__, module.__name__)
                self.assertEqual(list(inspect.signature(function).parameters), arguments.split(","), listed)
                for parameter in inspect.signature(function).parameters.values():
                    self.assertIs(parameter.kind, parameter.POSITIONAL_OR_KEYWORD, listed)
                    self.assertIs(parameter.default, parameter.empty, listed)


if __name__ == "__main__":
    unittest.main()
