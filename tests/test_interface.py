import ast
import importlib
import inspect
import unittest
from pathlib import Path

PACKAGE = Path(__file__).resolve().parent.parent / "whysheets"

# The modules of the document's interface, in its order, each function with its parameters.
INTERFACE = {
    "errors": {},
    "words": {"is_name": "thing", "sort_of": "word"},
    "trees": {"is_expression": "thing", "is_cell": "thing", "is_sheet": "thing", "paths": "sheet",
              "tree_at": "sheet path", "changed_at": "sheet path tree"},
    "texts": {"words_of": "text", "read_sheet": "text", "read_cell": "text", "read_expression": "text",
              "can_follow": "text", "sheet_text": "sheet", "cell_text": "cell", "expression_text": "expression"},
    "places": {"reach_of": "text path", "path_at": "text line column"},
    "alike": {"with_names": "sheet names", "is_like": "one other"},
    "ends": {"shortest_end": "text"},
    "names": {"reads": "sheet spot", "start_reads": "sheet name"},
    "faults": {"faults": "sheet", "is_sound": "sheet"},
    "kinds": {"kinds": "sheet", "kind_of": "sheet expression"},
    "order": {"knots": "sheet", "knot_of": "sheet spot", "order_of": "sheet", "sources": "sheet spot",
              "users": "sheet spot", "kept": "sheet names"},
    "waists": {"waist": "sheet inputs spots", "ways_apart": "sheet inputs spots"},
    "plain": {"worth": "sheet point spot", "worths": "sheet point", "expression_worth": "sheet point expression",
              "open_spots": "sheet point", "why_open": "sheet point spot", "looked_at": "sheet point spot"},
    "settling": {"rings": "sheet", "rounds": "sheet point cell", "settled": "sheet point cell"},
    "boxes": {"is_box": "sheet thing", "whole": "sheet", "box_at": "sheet point", "points_in": "sheet box",
              "is_inside": "sheet one other", "nearest_in": "sheet box point prices"},
    "bounds": {"is_stretch": "thing", "allows": "stretch worth", "is_within": "one other", "hull": "stretches",
               "stretch": "sheet box spot", "stretches": "sheet box", "expression_stretch": "sheet box expression",
               "ring_stretches": "sheet box cell"},
    "forks": {"is_order": "thing", "is_fork": "thing", "worth_at": "fork point", "fork_from": "order worths",
              "worths_of": "fork"},
    "joins": {"joined": "word forks", "mapped": "fork table other", "held": "fork part",
              "put_in": "fork name inner", "over": "fork names word"},
    "orders": {"reordered": "fork order", "exchanged": "fork at", "levels": "fork", "width": "fork ahead name",
               "are_fair": "fork thing", "fewest": "fork"},
    "counts": {"counted": "fork weights", "rank": "fork point", "ranked": "fork worth number"},
    "partings": {"parting": "fork other", "nearest_parting": "fork other point prices", "idle": "fork",
                 "untwin": "fork one other", "families": "fork"},
    "making": {"fork_of": "sheet spot order", "same_worths": "sheet spot other second"},
    "sways": {"sway": "fork", "shares": "fork base point"},
    "bunches": {"apart": "fork names", "bunches": "fork"},
    "written": {"as_expression": "fork", "as_sheet": "fork name", "normal_text": "sheet spot order name"},
    "papers": {"breaks": "sheet point claim", "is_paper": "sheet thing", "leaf_boxes": "sheet box paper"},
    "judge": {"judge": "sheet box claim paper", "pressed": "sheet box claim paper",
              "restricted": "sheet box paper smaller"},
    "finding": {"find": "sheet box claim", "worths_over": "sheet box spot", "fewest": "sheet box claim",
                "shortest": "sheet box claim"},
    "turns": {"moves": "sheet point", "behind": "sheet point lot", "way_to": "sheet point other",
              "is_turn": "sheet point wishes thing", "shuts": "sheet point wishes thing",
              "box_beside": "sheet point lot", "wall_of": "sheet point box",
              "turn_within": "sheet point wishes lot", "wall_within": "sheet point wishes lot"},
    "shown": {"walls_by_move": "sheet point wishes lot", "turns_by_move": "sheet point wishes lot",
              "is_turn_shown": "sheet point wishes lot thing", "is_shut_shown": "sheet point wishes lot thing"},
    "mirrors": {"mirror": "sheet point wishes most", "mirror_tree": "sheet point wishes most",
                "is_mirror_tree": "sheet point turns walls thing", "idle_moves": "sheet point wishes",
                "roomiest": "sheet point wishes most"},
    "nearest": {"price": "sheet point prices lot", "nearest": "sheet point wishes prices",
                "nearest_many": "sheet point wishes prices many", "ladder": "sheet spot point prices"},
    "schemes": {"is_scheme": "sheet box spot thing", "trail": "sheet box spot scheme point",
                "worst_price": "sheet box spot prices sides scheme"},
    "asking": {"best_scheme": "sheet box spot prices sides"},
    "opponents": {"is_opponent": "sheet box spot prices sides price thing", "opponent": "sheet box spot prices sides"},
    "grounds": {"cheapest_grounds": "sheet point spot prices"},
    "inquiry": {},
    "hands": {"is_plan": "sheet point game prices wish price thing", "is_spoiler": "sheet point game prices wish price thing",
              "sure": "sheet point game prices wish", "spoiler": "sheet point game prices wish price"},
    "grips": {"is_grip": "sheet names wish group", "is_lock": "sheet names wish group", "grips": "sheet names wish",
              "locks": "sheet names wish"},
    "courses": {"is_course": "sheet spot game side thing", "due": "sheet spot game weights side course",
                "stakes": "sheet spot game weights"},
    "matches": {},
    "wishes": {"granted": "sheet point wishes", "repair": "sheet point box prices wishes"},
    "quarrels": {"is_quarrel": "sheet box wishes thing", "is_peace": "sheet box wishes thing", "quarrels": "sheet box wishes",
                 "peaces": "sheet box wishes", "quarrel_within": "sheet box wishes indexes",
                 "peace_within": "sheet box wishes indexes", "idle_wishes": "sheet box wishes",
                 "peace_point": "sheet box wishes indexes", "cheapest_peace": "sheet box wishes weights",
                 "bar": "sheet box wishes weights", "is_bar": "sheet box wishes weights limit thing", "blame": "sheet box wishes"},
    "bargains": {"bargains": "sheet point box prices wishes weights", "tradeoff": "sheet point box prices wishes weights limit",
                 "front_paper": "sheet point box prices wishes weights",
                 "is_front_paper": "sheet point box prices wishes weights found thing"},
    "edits": {"is_edit": "thing", "edited": "sheet edits", "inverse": "sheet edits"},
    "differences": {"difference": "old new", "distance": "old new"},
    "sessions": {},
    "lots": {"is_lot": "thing"},
    "writers": {"changed": "sheet lot", "lot_between": "old new", "breach": "sheet promises",
                "collision": "sheet promises one other", "joined": "sheet promises one other"},
    "rests": {"rests": "fork", "lesson": "fork"},
    "learning": {"learn": "sheet spot order"},
    "books": {"is_book": "thing", "book_of": "sheet order"},
    "bits": {"pack": "book", "unpack": "order spots bits", "filled": "order spots bits"},
    "foretold": {"foretold": "order spots bits point"},
    "machine": {"read": "order many question bits", "walls_from": "order many bits point"},
    "desk": {},
}
# The classes of the interface, each with its methods.
CLASSES = {
    "inquiry": {"Inquiry": {"__init__": "sheet spot prices sides", "ask": "question answer", "undo": "", "box": "",
                            "told": "", "spent": "", "left": "", "cost": "question", "next_question": "",
                            "is_known": "", "worth": ""}},
    "matches": {"Match": {"__init__": "sheet point game prices wish", "put": "number", "undo": "", "position": "",
                          "owner": "", "paid": "", "left": "", "best": ""}},
    "sessions": {"Session": {"__init__": "sheet point", "sheet": "", "point": "", "worth": "spot", "worths": "", "put": "numbers",
                             "edit": "edits", "undo": "", "redo": "", "done": "", "undone": ""}},
    "learning": {"Learner": {"__init__": "order", "wants": "", "answer": "worth", "differs": "point worth", "agrees": "",
                             "told": "", "copied": ""}},
    "machine": {"Machine": {"__init__": "order many question", "feed": "bit", "done": "", "answers": "", "depth": "",
                            "finished": ""}},
    "desk": {"Desk": {"__init__": "text", "say": "line"}},
}


def imports_of(name):
    """The modules of the package from which a module imports."""
    tree = ast.parse((PACKAGE / f"{name}.py").read_text())
    modules = [node.module for node in ast.walk(tree) if isinstance(node, ast.ImportFrom)]
    return {module.split(".")[1] for module in modules if module.startswith("whysheets.")}


def all_imports_of(name):
    found = set()
    waiting = [name]
    while waiting:
        for one in imports_of(waiting.pop()):
            if one not in found:
                found.add(one)
                waiting.append(one)
    return found


class InterfaceTest(unittest.TestCase):
    def test_names_and_parameters(self):
        for module, functions in INTERFACE.items():
            found = importlib.import_module(f"whysheets.{module}")
            for name, parameters in functions.items():
                function = getattr(found, name)
                self.assertTrue(inspect.isfunction(function))
                told = inspect.signature(function).parameters
                self.assertEqual(list(told), parameters.split(), name)
                for one in told.values():
                    self.assertEqual((one.kind, one.default), (one.POSITIONAL_OR_KEYWORD, one.empty))

    def test_each_is_defined_in_its_file(self):
        for module, functions in INTERFACE.items():
            tree = ast.parse((PACKAGE / f"{module}.py").read_text())
            own = {node.name for node in tree.body if isinstance(node, ast.FunctionDef)}
            self.assertTrue(set(functions) <= own, module)

    def test_classes_and_methods(self):
        for module, classes in CLASSES.items():
            found = importlib.import_module(f"whysheets.{module}")
            for name, methods in classes.items():
                own = vars(getattr(found, name))
                self.assertEqual(getattr(found, name).__module__, f"whysheets.{module}")
                for method, parameters in methods.items():
                    told = inspect.signature(own[method]).parameters
                    self.assertEqual(list(told), ["self"] + parameters.split(), method)
                    for one in told.values():
                        self.assertEqual((one.kind, one.default), (one.POSITIONAL_OR_KEYWORD, one.empty))

    def test_modules_import_from_those_ahead(self):
        order = list(INTERFACE)
        for k, module in enumerate(order):
            behind = set(order[k:])
            self.assertEqual(all_imports_of(module) & behind, set(), module)

    def test_init_defines_nothing(self):
        self.assertEqual(ast.parse((PACKAGE / "__init__.py").read_text()).body, [])


if __name__ == "__main__":
    unittest.main()
