"""The names of the interface: in the file that lists them, with the parameters as written; and what the folder holds."""

import importlib
import inspect
import os
import unittest

import fromplaces

FUNCTIONS = {
    "basics": {"is_integer": "value", "is_count": "value"},
    "ratios": {"is_number": "value", "Ratio": "top bottom=1"},
    "polys": {
        "is_poly": "value", "told": "poly", "degree": "poly", "plus": "poly other", "minus": "poly other",
        "scaled": "poly number", "derived": "poly", "times": "poly other", "put_in": "poly other",
        "worth": "poly number", "divided": "poly other",
    },
    "parts": {"common": "poly other", "multiple": "poly other", "part_with": "poly other"},
    "solved": {
        "steps": "rows", "kernel": "rows wide", "solution": "rows goals", "is_solution": "rows goals value",
    },
    "counts": {
        "common_count": "counts", "is_met": "counts many", "met": "counts many", "least_counts": "counts",
        "gaps": "counts", "greatest_gap": "counts", "is_mirrored": "counts",
    },
    "ways": {
        "ways": "counts many", "a_way": "counts many", "is_way": "counts many value", "lots_of_ways": "counts many",
        "turning_counts": "counts",
    },
    "makers": {"is_makers": "value", "told_makers": "makers", "degrees": "makers"},
    "makings": {
        "is_making": "makers value", "made_by": "makers making", "lines_by": "makers making",
        "sum_making": "makers making other number", "product_making": "makers making other",
    },
    "inner": {"digits": "poly inner", "outer": "poly inner", "root_part": "poly many"},
    "bases": {
        "full_base": "makers", "is_full_base": "makers value", "base_makings": "makers", "met_counts": "makers",
        "common_degree": "makers", "inner_part": "makers",
    },
    "made": {
        "left": "makers poly", "is_made": "makers poly", "making_of": "makers poly",
        "is_making_of": "makers poly value", "taken_to": "makers many",
    },
    "rooms": {
        "Room": "clock polys", "is_room": "clock value", "room_by": "clock rows", "within": "room other",
        "sum_room": "room other", "meet_room": "room other", "led_room": "room clock",
    },
    "kept": {"kept_apart": "makers poly", "is_kept_apart": "makers poly value", "local_made": "makers poly clock"},
    "houses": {"House": "makers"},
    "clocks": {"house_of": "room", "is_clock_of": "house value", "least_clock": "room"},
    "times": {
        "times_at": "house number", "same_place": "house number other", "is_plain_time": "house number",
        "bundle": "house number", "bundle_gaps": "house number", "is_parted": "house first",
    },
    "stops": {
        "stop_part": "house", "is_stop": "house number", "weight": "house number", "clock_times": "house",
        "crossings": "house",
    },
    "together": {
        "joined": "house other", "met_house": "house other", "is_within": "house other", "lone": "house other",
        "is_lone": "house other value",
    },
    "moves": {
        "moved": "house first second", "is_moved": "house other first second", "is_even": "house",
        "power_house": "counts", "is_power_house": "house",
    },
    "texts": {"sorts": "", "is_of_sort": "sort value", "written": "sort value"},
    "readers": {"read": "text"},
    "claims": {
        "words": "", "is_claim": "value", "is_true": "claim", "contrary": "claim", "paper_of": "claim",
        "is_paper_of": "claim value",
    },
    "commands": {"is_name": "value", "is_command": "value", "is_deed": "value"},
    "desk": {"Desk": "", "Trial": "desk", "tried": "desk action"},
}
ROOM_METHODS = {"size": "self", "clock": "self", "rows": "self", "rest": "self poly", "holds": "self poly", "heads": "self"}
HOUSE_METHODS = {
    "base": "self", "gaps": "self", "holds": "self poly", "left": "self poly", "clock": "self", "room": "self",
}
DESK_METHODS = {
    "claim_of": "self label", "do": "self command", "do_all": "self *commands", "attempt": "self *commands",
    "attach": "self label paper", "fits": "self label", "lines": "self", "copy": "self",
}
RATIO_METHODS = {"over": "other", "size": "", "is_below": "other", "is_at_most": "other", "total": "numbers"}


def parameters(called):
    return " ".join([str(one) for one in inspect.signature(called).parameters.values()])


class Interface(unittest.TestCase):

    def test_functions_and_classes(self):
        for file, names in FUNCTIONS.items():
            module = importlib.import_module("fromplaces." + file)
            for name, wanted in names.items():
                with self.subTest(file, name=name):
                    called = getattr(module, name)
                    self.assertEqual(called.__module__, "fromplaces." + file)
                    self.assertEqual(parameters(called), wanted)

    def test_ratio(self):
        ratio = importlib.import_module("fromplaces.ratios").Ratio
        for name, wanted in RATIO_METHODS.items():
            self.assertIn(name, vars(ratio))
            self.assertEqual(parameters(getattr(ratio(1), name)), wanted)
        for name in ["top", "bottom", "sign", "is_whole"]:
            self.assertIsInstance(vars(ratio)[name], property)
        self.assertIsInstance(vars(ratio)["total"], classmethod)

    def test_room_and_house(self):
        for file, name, methods, properties in [
            ("rooms", "Room", ROOM_METHODS, ["ties", "is_all"]), ("houses", "House", HOUSE_METHODS, ["gap_count"]),
        ]:
            kind = getattr(importlib.import_module("fromplaces." + file), name)
            for method, wanted in methods.items():
                self.assertEqual(parameters(vars(kind)[method]), wanted)
            for one in properties:
                self.assertIsInstance(vars(kind)[one], property)
            for one in ["__eq__", "__repr__"]:
                self.assertIn(one, vars(kind))

    def test_desk_and_trial(self):
        module = importlib.import_module("fromplaces.desk")
        for method, wanted in DESK_METHODS.items():
            self.assertEqual(parameters(vars(module.Desk)[method]), wanted)
        for one in ["names", "labels"]:
            self.assertIsInstance(vars(module.Desk)[one], property)
        self.assertIsInstance(vars(module.Desk)["again"], classmethod)
        self.assertEqual(parameters(module.Desk.again), "lines")
        for one in ["__len__", "__getitem__", "__contains__", "__call__"]:
            self.assertIn(one, vars(module.Desk))
        for one in ["__enter__", "__exit__"]:
            self.assertIn(one, vars(module.Trial))

    def test_folder(self):
        folder = os.path.dirname(fromplaces.__file__)
        names = [name for name in os.listdir(folder) if name != "__pycache__"]
        self.assertEqual([name for name in names if not name.endswith(".py")], [])


if __name__ == "__main__":
    unittest.main()
