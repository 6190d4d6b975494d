import importlib
import inspect
import unittest

FUNCTIONS = {
    "network": {"distances": "network node", "suits": "network bounds", "bounds_of": "network"},
    "building": {
        "path": "count", "ring": "count", "grid": "rows columns", "star": "count",
        "renamed": "network names", "turned": "network orders",
    },
    "netreader": {"network_text": "network", "read_network": "text"},
    "running": {
        "run": "network bounds algorithm *given", "letter_count": "network bounds algorithm",
        "states_after": "network bounds algorithm rounds *given",
    },
    "late": {"run_late": "network bounds algorithm choices *given"},
    "balls": {
        "ball_of": "network node radius *given", "view_of": "network node depth *given",
        "output_in_ball": "ball bounds algorithm", "output_in_view": "view bounds algorithm",
    },
    "palettes": {
        "is_prime": "number", "prime_from": "number", "step_of": "degree colors", "palettes": "bounds",
        "shrunk": "color others step",
    },
    "coloring": {"is_coloring": "network outputs colors"},
    "sets": {
        "is_independent": "network outputs", "is_maximal_independent": "network outputs",
        "is_dominating": "network outputs", "is_cover": "network outputs",
    },
    "matching": {"is_matching": "network outputs", "is_maximal_matching": "network outputs"},
    "ruling": {"are_rulers": "network outputs reach", "are_clusters": "network outputs reach"},
    "forests": {"are_forests": "network outputs"},
    "tasks": {
        "answers": "task degree", "solves": "task network outputs", "least_cover": "network",
        "least_dominating": "network",
    },
    "papers": {"check_paper": "paper", "two_paths": "radius", "rule_of_paper": "paper"},
    "lifts": {
        "lift": "network sheets shifts names", "is_lift": "lifted network copied",
        "view_classes": "network depth", "stable_depth": "network",
    },
    "labels": {
        "says_yes": "sort name label neighbors", "all_say_yes": "sort network labels", "labels_for": "sort network",
    },
    "laboratory": {"algorithm_named": "word", "output_text": "output"},
    "lossy": {"run_lossy": "network bounds algorithm choices *given"},
    "powers": {"power": "network exponent", "power_bounds": "bounds exponent"},
    "linkwork": {
        "link_network": "network bounds", "link_bounds": "bounds", "are_link_colors": "network outputs colors",
    },
    "checks": {"least_radius": "task named networks *most"},
    "ordered": {"first_independent": "network"},
    "steady": {
        "right_memories": "network bounds algorithm *given", "steady_step": "network bounds algorithm memories *given",
        "run_steady": "network bounds algorithm memories rounds *given",
    },
    "pieces": {"data_text": "data", "read_data": "text", "longest_letter": "network bounds algorithm *given"},
    "cuts": {"cut_links": "network outputs"},
    "clustersums": {"cluster_network": "network outputs"},
    "alike": {
        "are_alike": "first node second other radius named", "alike_radius": "first node second other named",
        "alike_pairs": "first second radius named",
    },
}

CLASSES = {
    "errors": {
        "NearbyError": None, "InvalidText": "line", "InvalidNetwork": None, "InvalidBounds": None, "InvalidInput": None,
        "InvalidBall": None, "InvalidLift": None, "TooLarge": None,
    },
    "network": {"Network": "names neighbors"},
    "simple": {"Quiet": "value", "Echo": "", "Names": "count", "Spread": "count"},
    "joining": {"Then": "first second"},
    "balls": {"Gather": "radius", "GatherView": "depth"},
    "coloring": {"Shrink": "", "Fewer": "colors", "Colors": ""},
    "sets": {"IndependentFromColors": "", "Independent": ""},
    "matching": {"MatchingFromColors": "", "Matching": "", "CoverByMatching": "", "NamelessCover": ""},
    "ruling": {"Rulers": "", "ClustersFromRulers": "", "Clusters": ""},
    "forests": {"Forests": "", "Heights": "count"},
    "laboratory": {"Laboratory": ""},
    "powers": {"OnPower": "algorithm exponent", "FarColors": "exponent", "FarIndependent": "exponent"},
    "linkwork": {"OnLinks": "algorithm", "LinkColors": ""},
    "checks": {"Content": "task"},
    "ordered": {"FirstIndependent": "count"},
    "pieces": {"InPieces": "algorithm size length"},
    "cuts": {"CutFromColors": "", "Cut": ""},
    "clustersums": {"ClusterSums": ""},
}

METHODS = {
    ("network", "Network"): {
        "size": "", "names": "", "neighbors": "node", "degree": "node", "far_port": "node port", "links": "",
    },
    ("laboratory", "Laboratory"): {"answer": "line", "answers": "lines"},
}

ALGORITHM_METHODS = {
    "rounds": "bounds", "begin": "bounds name degree given", "letters": "bounds state",
    "receive": "bounds state received", "output": "bounds state",
}

ALGORITHMS = [
    "simple", "joining", "balls", "coloring", "sets", "matching", "ruling", "forests", "powers", "linkwork", "checks",
    "ordered", "pieces", "cuts", "clustersums",
]

# What the parameters are that are passed by keyword, if nothing is passed.
DEFAULTS = {"given": None, "most": 4}


def told_parameters(function):
    """The names of the parameters; a star stands before one that is passed by keyword."""
    words = []
    for name, parameter in inspect.signature(function).parameters.items():
        words.append(("*" if parameter.kind is parameter.KEYWORD_ONLY else "") + name)
    return " ".join(words)


class InterfaceTest(unittest.TestCase):
    def test_functions(self):
        for file, functions in FUNCTIONS.items():
            module = importlib.import_module("nearby." + file)
            for name, parameters in functions.items():
                function = getattr(module, name)
                self.assertEqual(function.__module__, "nearby." + file)
                self.assertEqual(told_parameters(function), parameters, name)
                for parameter in inspect.signature(function).parameters.values():
                    if parameter.kind is parameter.KEYWORD_ONLY:
                        self.assertEqual(parameter.default, DEFAULTS[parameter.name])

    def test_classes(self):
        for file, classes in CLASSES.items():
            module = importlib.import_module("nearby." + file)
            for name, parameters in classes.items():
                told = getattr(module, name)
                self.assertEqual(told.__module__, "nearby." + file)
                if parameters is not None:
                    self.assertEqual(told_parameters(told) if "__init__" in vars(told) else "", parameters, name)

    def check_methods(self, told, methods):
        for name, parameters in methods.items():
            self.assertIn(name, vars(told))
            self.assertEqual(told_parameters(vars(told)[name]), ("self " + parameters).strip())

    def test_methods(self):
        for (file, name), methods in METHODS.items():
            self.check_methods(getattr(importlib.import_module("nearby." + file), name), methods)

    def test_methods_of_algorithms(self):
        for file in ALGORITHMS:
            module = importlib.import_module("nearby." + file)
            for name in CLASSES[file]:
                self.check_methods(getattr(module, name), ALGORITHM_METHODS)


if __name__ == "__main__":
    unittest.main()
