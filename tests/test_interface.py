"""The interface: each name, its arguments, and the file in which it is defined."""

import ast
import importlib
import pathlib
import unittest

PACKAGE = pathlib.Path(__file__).resolve().parent.parent / "enoughchecks"

FUNCTIONS = {
    "webs": {"is_way": ["web", "thing"], "ends": ["web", "way"], "passed": ["web", "way"],
             "reached": ["web", "place"], "reaching": ["web", "place"], "between": ["web", "u", "v"]},
    "ways": {"ways_many": ["web", "u", "v"], "way_number": ["web", "way"], "ways": ["web", "u", "v"],
             "way_at": ["web", "u", "v", "number"]},
    "changes": {"mirrored": ["web"], "numbered": ["web", "order"], "with_arrow": ["web", "u", "v"],
                "without_arrow": ["web", "arrow"], "beside": ["web", "other_web"], "floor": ["web", "other_web"],
                "cube": ["n"]},
    "checking": {"is_check": ["web", "thing"], "checks_many": ["web"]},
    "worlds": {"is_world": ["web", "thing"], "is_parted_ways": ["web", "world", "u", "v", "thing"],
               "led": ["web", "world", "way", "thing"], "parted_thing": ["web", "world", "one", "other"],
               "failed": ["web", "world", "checks"], "parted_pairs": ["web", "world"],
               "parted_ways": ["web", "world", "u", "v"]},
    "clusters": {"clusters": ["web", "u", "v"], "cluster_sizes": ["web", "u", "v"],
                 "groups": ["web", "checks", "u", "v"], "holes": ["web", "checks"], "cluster_of": ["web", "way"]},
    "enough": {"enough": ["web", "checks"], "is_trees": ["web", "checks", "thing"],
               "is_small_world": ["web", "checks", "thing"], "is_further": ["web", "checks", "thing"],
               "trees": ["web", "checks"], "small_world": ["web", "checks"], "lacking": ["web", "checks"],
               "further": ["web", "checks"], "spare": ["web", "checks"], "tidied": ["web", "checks"]},
    "chains": {"exchanged": ["web", "checks", "way", "thing"], "follows": ["web", "checks", "one", "other"],
               "is_chain": ["web", "checks", "one", "other", "thing"], "chain": ["web", "checks", "one", "other"],
               "classes": ["web", "checks", "u", "v"]},
    "wholes": {"world_of_all": ["web", "checks"], "is_world_of_all": ["web", "checks", "thing"],
               "beyond": ["web", "checks", "more"]},
    "leasts": {"least_number": ["web"], "least_pairs": ["web"], "is_least": ["web", "thing"], "least_list": ["web"]},
    "counting": {"least_many": ["web"], "least_index": ["web", "thing"], "least_at": ["web", "number"]},
    "stocks": {"cheapest": ["web", "stock", "prices"]},
    "roads": {"road": ["web", "one", "other"], "is_road": ["web", "one", "other", "thing"]},
    "papers": {"surely": ["web", "checks", "sort", "told", "one", "other"],
               "is_paper": ["web", "checks", "sort", "told", "one", "other", "thing"],
               "enough_so": ["web", "checks", "sort", "told"],
               "paper": ["web", "checks", "sort", "told", "one", "other"]},
    "partings": {"parting": ["web", "checks", "sort", "told", "one", "other"],
                 "is_parting": ["web", "checks", "sort", "told", "one", "other", "thing"]},
    "roots": {"root_tree": ["web", "root"], "root_checks": ["web", "root"]},
    "sums": {"rank": ["web", "checks"], "full_rank": ["web"], "numbers": ["web", "checks"],
             "is_numbers": ["web", "checks", "thing"]},
    "suspects": {"suspects": ["web", "checks", "failed"], "unseen": ["web", "checks"], "never_seen": ["web"],
                 "bar": ["web", "checks", "failed", "arrow"], "spoiled": ["web", "checks", "failed", "arrow"],
                 "next_check": ["web", "checks", "failed", "stock"],
                 "is_bar": ["web", "checks", "failed", "arrow", "thing"],
                 "is_spoiled": ["web", "checks", "failed", "arrow", "thing"]},
    "logs": {"log": ["ledger"], "restored": ["web", "text"]},
    "judges": {"wrong_judge": ["web", "checks", "judge"]},
    "texts": {"web_text": ["web"], "checks_text": ["web", "checks"]},
    "reading": {"read_web": ["text"], "read_checks": ["web", "text"]},
}
# Of each class: its methods, listed ones and those that its arguments and its equality ask for.
CLASSES = {
    "webs": {"Web": {"__init__": ["self", "places", "arrows"], "__eq__": ["self", "other"]}},
    "ledgers": {"Ledger": {
        "__init__": ["self", "web"], "arrow": ["self", "u", "v"], "strike": ["self", "arrow"],
        "renewed": ["self", "arrow"], "passed": ["self", "check"], "failed": ["self", "check"], "web": ["self"],
        "checks": ["self"], "sound": ["self"], "lacking": ["self"], "known": ["self", "one", "other"], "due": ["self"],
        "blamed": ["self"], "back": ["self"], "deeds": ["self"], "copy": ["self"], "trying": ["self", "action"]}},
    "desk": {"Desk": {"__init__": ["self"], "tell": ["self", "line"], "undoable": ["self"]}},
    "errors": {
        "CheckError": {},
        "BadWeb": {"__init__": ["self", "part", "at"]}, "TooMany": {"__init__": ["self", "most"]},
        "BadText": {"__init__": ["self", "line"]}, "NoName": {"__init__": ["self", "name"]},
        "NoAnswer": {"__init__": ["self", "check"]}, "NoWay": {}, "NoPlace": {}, "NoNumber": {}, "NoOrder": {},
        "NoArrow": {}, "NoChecks": {}, "NoWorld": {}, "NoThing": {}, "NoPair": {}, "NotEnough": {}, "NoExchange": {},
        "NoList": {}, "NoPrices": {}, "NoSort": {}, "NoTold": {}, "NoRoot": {}, "NoFailed": {}, "NoCheck": {},
        "NothingDone": {}, "NoLine": {},
    },
}


def defined(module, kind):
    tree = ast.parse((PACKAGE / f"{module}.py").read_text())
    return {node.name: node for node in tree.body if isinstance(node, kind)}


def arguments(function):
    return [argument.arg for argument in function.args.args]


class Interface(unittest.TestCase):
    def test_functions(self):
        for module, functions in FUNCTIONS.items():
            found = defined(module, ast.FunctionDef)
            for name, expected in functions.items():
                self.assertEqual(arguments(found[name]), expected, f"{module}.{name}")
                self.assertEqual(found[name].args.defaults, [], f"{module}.{name}")
                loaded = importlib.import_module(f"enoughchecks.{module}")
                self.assertTrue(callable(getattr(loaded, name)))

    def test_classes_and_their_methods(self):
        for module, classes in CLASSES.items():
            found = defined(module, ast.ClassDef)
            for name, methods in classes.items():
                own = {node.name: node for node in found[name].body if isinstance(node, ast.FunctionDef)}
                for method, expected in methods.items():
                    self.assertEqual(arguments(own[method]), expected, f"{module}.{name}.{method}")


if __name__ == "__main__":
    unittest.main()
