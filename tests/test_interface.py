"""The interface: all names, in their files and classes, with the arguments that the document tells."""

import importlib
import inspect
import unittest

FUNCTIONS = {
    "checks": {"is_integer": "value", "is_within": "value least most", "is_point": "value", "is_way": "value"},
    "papers": {"fixed": "value"},
    "rooms": {"open_sides": "room", "walls_of": "room"},
    "places": {
        "fan_of": "room square tip", "is_corner": "room square tip", "points_in": "room", "places_of": "room",
        "is_place": "room value", "squares_at": "room point",
    },
    "changed": {
        "moved": "room by", "turned": "room quarters", "mirrored": "room", "finer": "room times",
        "shut_up": "room side", "opened": "room side", "moved_point": "room by point",
        "turned_point": "room quarters point", "mirrored_point": "room point", "finer_point": "room times point",
    },
    "rays": {
        "track_of": "room square place way", "met_first": "room square place way posts",
        "bounces_of": "room square place way steps", "stand_after": "room square place way steps",
        "turned_back": "room square place way steps", "length_of": "way steps",
    },
    "sheets": {
        "sheet_of": "room", "marks_of": "room point", "point_at": "room mark", "onward": "sheet fine mark way",
        "square_point": "room point",
    },
    "books": {
        "lean_sheet": "sheet letter times=1", "lean_mark": "sheet fine mark letter times=1", "word_of": "way",
        "ways_of": "word", "book_of": "room lamp wish posts", "leant": "book letter times=1",
        "first_on": "book lamp side", "books_from": "book",
    },
    "judged": {"judged": "room lamp wish posts=()"},
    "check_judged": {"shows_judged": "room lamp wish posts value"},
    "guards": {
        "sixteen": "room lamp wish", "guards_of": "room lamp wish", "stops_all": "room lamp wish posts",
        "needless": "room lamp wish posts", "thinned": "room lamp wish posts", "shots_past": "room lamp wish posts",
    },
    "check_guards": {"shows_thin": "room lamp wish posts value"},
    "nearest": {
        "rays_within": "room lamp wish posts far", "shortest": "room lamp wish posts=()", "homeward": "room lamp far",
    },
    "maps": {
        "lit_from": "room lamp", "dark_from": "room lamp", "dark_pairs": "room", "lamps_for": "room wishes",
        "see_table": "room",
    },
    "folds": {
        "folds_of": "room ground", "folds_onto": "room ground", "point_down": "room ground rows square point",
        "points_up": "room ground rows point", "ray_down": "room ground rows square place way",
    },
    "check_folds": {"shows_fold": "room ground value"},
    "doors": {
        "inner_sides": "room", "door_word": "room lamp wish posts sides", "door_table": "room lamp wish posts",
        "all_doors": "room lamp wish posts", "darkened": "room lamp wish posts most",
        "lightened": "room lamp wish posts most",
    },
    "check_doors": {
        "shows_doors": "room lamp wish posts most value", "shows_opened": "room lamp wish posts most value",
    },
    "pictures": {
        "plan_of": "room", "picture_of": "room lamp wish posts=()", "picture_of_track": "room square place way",
    },
    "screens": {"screened": "room lamps wishes posts", "fewest_posts": "room lamps wishes points most"},
    "check_screens": {
        "shows_screened": "room lamps wishes posts value", "shows_fewest": "room lamps wishes points most value",
    },
    "makers": {
        "rooms_of": "many", "alike": "one other", "least_room": "room", "dark_rooms": "many", "shut_lots": "room",
    },
    "stories": {
        "story_of": "room square place way steps", "wrong_line": "lines", "story_in": "lines",
        "shows_story": "room value",
    },
    "bands": {
        "bands_of": "room way", "end_of": "room square place way", "met_by": "room square place way posts",
    },
}
CLASSES = {
    "papers": {"Paper": "word *parts", "Denial": "word *parts"},
    "rooms": {"Room": "squares shut=() fine=1"},
    "rays": {"Track": "points end"},
    "sheets": {"Sheet": "right up corners"},
    "books": {"Book": "sheet fine lamps wishes posts"},
    "judged": {"Lit": "square way steps", "Dark": "books"},
    "guards": {"Thin": "posts"},
    "folds": {"Fold": "rows", "NoFold": ""},
    "doors": {
        "Doors": "sides", "NoDoors": "most", "Opened": "sides square way steps", "StillDark": "most",
    },
    "desks": {"Desk": ""},
    "screens": {
        "Screened": "", "Through": "lamp wish square way steps", "Screen": "posts", "NoScreen": "most",
    },
    "makers": {"Alike": "is_mirrored quarters by", "Unlike": ""},
}
METHODS = {
    "Paper": ("__init__", "__bool__", "__eq__"), "Denial": ("__init__", "__bool__", "__eq__"),
    "Room": ("__init__", "__eq__", "__str__", "read"), "Sheet": ("__init__", "__eq__", "__str__", "read"),
    "Track": ("__init__",), "Book": ("__init__", "__eq__"), "Lit": ("__init__",), "Dark": ("__init__",),
    "Thin": ("__init__",), "Fold": ("__init__",), "NoFold": ("__init__",), "Doors": ("__init__",),
    "NoDoors": ("__init__",), "Opened": ("__init__",), "StillDark": ("__init__",),
    "Desk": ("__init__", "__eq__", "tell", "names", "room", "marks", "lines", "twin", "read"), "Screened": ("__init__",),
    "Through": ("__init__",), "Screen": ("__init__",), "NoScreen": ("__init__",), "Alike": ("__init__",),
    "Unlike": ("__init__",),
}


def parameters_of(function):
    """The parameters of a function as one text."""
    return " ".join(str(parameter) for parameter in inspect.signature(function).parameters.values())


class Interface(unittest.TestCase):

    def test_functions(self):
        for file, functions in FUNCTIONS.items():
            module = importlib.import_module("neverhit." + file)
            for name, parameters in functions.items():
                with self.subTest(file=file, name=name):
                    function = getattr(module, name)
                    self.assertEqual(module.__name__, function.__module__)
                    self.assertEqual(parameters, parameters_of(function))

    def test_classes(self):
        for file, classes in CLASSES.items():
            module = importlib.import_module("neverhit." + file)
            for name, parameters in classes.items():
                with self.subTest(file=file, name=name):
                    made = getattr(module, name)
                    self.assertEqual(module.__name__, made.__module__)
                    self.assertEqual(parameters, parameters_of(made))
                    for method in METHODS[name]:
                        self.assertIn(method, vars(made))

    def test_methods_of_a_desk(self):
        made = vars(importlib.import_module("neverhit.desks").Desk)
        for name, parameters in (("tell", "self line"), ("names", "self"), ("room", "self name"), ("marks", "self name"),
                                 ("lines", "self"), ("twin", "self")):
            self.assertEqual(parameters, parameters_of(made[name]))
        self.assertEqual("lines", parameters_of(made["read"].__func__))


if __name__ == "__main__":
    unittest.main()
