"""The interface: names, arguments, constants, and where each function, class and method is defined."""

import importlib
import inspect
import unittest

# The functions and methods with their arguments. The language has no argument that is called as the document's
# type: it is called kind.
FUNCTIONS = {
    "tokens": ["is_name value", "read_text data"],
    "events": ["is_sign value", "is_tree value", "is_document value", "tree_of document", "events_of tree",
               "document_events output", "print_output output"],
    "regexes": ["is_type_name value", "is_content value", "names_in content", "read_content text",
                "print_content content"],
    "automata": ["automaton_of content", "next_state automaton state symbol", "is_final automaton state",
                 "reads automaton row", "symbols_at automaton state", "states_of automaton", "parts automaton",
                 "inner_edges automaton"],
    "schemas": ["is_schema value", "read_schema text", "print_schema schema"],
    "validator": ["validate grammar events"],
    "completions": ["weights grammar", "start_event grammar kind", "least_element grammar kind",
                    "completion grammar validator", "least_to grammar kind state targets", "events_of grammar row"],
    "programs": ["is_program value", "fits program grammar", "body_of program mode kind", "settled body attributes",
                 "values_named body"],
    "syntax": ["parse_program text", "print_program program"],
    "plain": ["plain_output grammar program document", "without_places output"],
    "machine": ["run_document grammar program document"],
    "chains": ["plain_chain links document"],
    "blocking": ["first_blocking facts", "after_edge facts state attributes edge", "steps_of facts state",
                 "all_blocking facts"],
    "pumps": ["has_pump facts state", "decide facts", "judge_table facts paper", "judge_pump grammar program paper"],
    "bounds": ["least_depths facts", "bound facts depth"],
    "outcheck": ["keys_of facts output", "behaviour facts output kind attributes children", "check_output facts output",
                 "judge_behaviours facts output table"],
    "guards": ["first_wrong facts output events", "least_costs facts output"],
    "alike": ["uses_once facts", "compare facts other", "judge_meetings facts other value",
              "judge_difference facts other document"],
    "insides": ["least_inside grammar kind", "rows_of facts kind attributes modes inside",
                "is_valid_inside grammar kind events", "wide_cases facts kind"],
    "skipping": ["decide_skip facts kind attributes modes", "judge_same facts kind attributes modes table",
                 "judge_differ facts kind attributes modes inside"],
    "held": ["write_word value", "read_word data", "hold machine", "resume grammar program data"],
    "cuttings": ["next_state state byte", "join_parts left right", "tell_text part", "run_text grammar data"],
    "patches": ["apply_patch patch items", "undo_patch patch items", "join_patches first second many",
                "exchanges_of document patch"],
}
CLASSES = {
    "errors": {"StreamError": [], "NotValid": [], "TooMany": [], "BadByte": ["__init__ place"],
               "TooDeep": ["__init__ place"], "NotDocument": ["__init__ number"], "BadText": ["__init__ line place"]},
    "tokens": {"Tokens": ["__init__", "feed data", "close"]},
    "schemas": {"Grammar": ["__init__ schema", "types", "name_of kind", "attributes_of kind",
                            "child_type kind element", "automaton kind", "step kind state symbol",
                            "is_final kind state", "schema"]},
    "validator": {"Validator": ["__init__ grammar", "take event", "expected", "open_types", "states", "is_complete",
                                "fault", "copied"]},
    "facts": {"Facts": ["__init__ grammar program", "cases kind", "parts mode kind attributes",
                        "lanes mode kind attributes", "gives mode kind", "gives_symbol mode symbol",
                        "live mode symbols kind state", "round_edges kind", "giving_element mode kind"]},
    "machine": {"Machine": ["__init__ grammar program facts", "event event", "kept", "shape", "frames", "depth",
                            "wholly"]},
    "chains": {"Chain": ["__init__ links", "event event", "kept", "wholly"]},
    "guards": {"Guard": ["__init__ facts output", "can_be_right", "take event", "completion"]},
    "cuttings": {"Part": ["__init__ grammar data", "form", "width"]},
    "edits": {"Edited": ["__init__ grammar program document", "edit rows", "back", "document", "node_keys", "output",
                         "settled"]},
    "upkeep": {"EditedChain": ["__init__ links document", "edit rows", "back", "output"]},
    "skimmer": {"Skimmer": ["__init__ facts", "event event", "passes", "passed", "wholly"]},
}
CONSTANTS = {
    "tokens": {"MOST_DEPTH": 60, "MOST_NAME": 8},
    "automata": {"MOST_STATES": 30, "MOST_SETS": 400},
    "completions": {"MOST_EVENTS": 1000},
    "programs": {"MOST_MODES": 8, "MOST_NESTED": 6, "MOST_ITEMS": 60},
    "facts": {"MOST_CASES": 100},
    "blocking": {"MOST_BLOCKING": 3000},
    "outcheck": {"MOST_BEHAVIOURS": 100, "MOST_ROWS": 300},
    "skipping": {"MOST_STATES": 3000},
    "edits": {"MOST_STANDING": 5000},
}


def module(name):
    return importlib.import_module("hewstream." + name)


class InterfaceTest(unittest.TestCase):
    def check(self, function, row, first):
        name, *arguments = row.split()
        self.assertEqual(function.__name__, name)
        self.assertEqual(list(inspect.signature(function).parameters), first + arguments, row)

    def test_functions(self):
        for name, rows in FUNCTIONS.items():
            for row in rows:
                function = getattr(module(name), row.split()[0])
                self.assertEqual(function.__module__, "hewstream." + name)
                self.check(function, row, [])

    def test_classes(self):
        for name, classes in CLASSES.items():
            for kind, rows in classes.items():
                found = getattr(module(name), kind)
                self.assertTrue(inspect.isclass(found))
                self.assertEqual(found.__module__, "hewstream." + name)
                for row in rows:
                    # In the class itself, not in a base class.
                    self.check(vars(found)[row.split()[0]], row, ["self"])

    def test_facts_may_be_left_out(self):
        self.assertIsNone(inspect.signature(module("machine").Machine).parameters["facts"].default)

    def test_constants(self):
        for name, constants in CONSTANTS.items():
            for constant, number in constants.items():
                self.assertEqual(getattr(module(name), constant), number)
                self.assertIs(type(getattr(module(name), constant)), int)


if __name__ == "__main__":
    unittest.main()
