"""What holds over the whole program: the interface, one form, equal results, and that calls change nothing passed."""

import ast
import copy
import importlib
import os
import random
import unittest

from helpers import Case, check_defined, retold
from pressworlds import errors
from pressworlds.boards import Board
from pressworlds.certificates import certify_same
from pressworlds.checker import accepts
from pressworlds.errors import InvalidChanges
from pressworlds.leads import Lead
from pressworlds.libraries import Library
from pressworlds.rows import Row
from pressworlds.worlds import cosets, form, lot_of, makes, often, plan_of, read_change, read_lot, then, undone, world_of
from samples import WORLDS, random_change, random_lead, random_lot, still

FOLDER = os.path.join(os.path.dirname(os.path.dirname(os.path.abspath(__file__))), "pressworlds")
LISTED = """limits errors rows rowlots folds points pointlots slides slidelots views viewlots rounds roundlots moves movelots
worlds leads fewest boards wishes libraries checker certificates console""".split()
NAMES = {"rows": "row", "points": "point", "slides": "slide", "views": "view", "rounds": "round", "moves": "move"}
CHANGE_CLASSES = {"rows": ("Row", "letters word"), "points": ("Point", "numbers"), "slides": ("Slide", "side shift"),
                  "views": ("View", "factor zoom shift"), "rounds": ("Round", "levels lamps end"),
                  "moves": ("Move", "east north area")}
# What modules have beside what all worlds have; methods of classes of changes beside __init__, read, __str__ and __eq__.
MORE = {
    "rows": {"root_of_row": "row", "row_turns": "row", "row_least": "row"},
    "slides": {"slide_at": "one mark"}, "views": {"view_shows": "one point", "view_stays": "one"},
    "rounds": {"round_walked": "levels walk", "round_steps": "one", "round_walk": "one"},
    "moves": {"move_walked": "walk"},
    "rowlots": {"row_meet": "lot other_lot"}, "pointlots": {
        "point_meet": "lot other_lot", "point_rings": "lot", "point_rest": "lot change", "order_in_rest": "lot change",
        "point_counts": "lot change"},
    "slidelots": {"slide_meet": "lot other_lot", "slide_mover": "lot other_lot"},
    "movelots": {"move_meet": "lot other_lot"},
    "folds": {"row_rank": "lot", "least_rows": "lot", "walked": "lot change", "remainders": "lot",
        "is_normal_lot": "lot",
              "row_mover": "lot other_lot"},
    "worlds": {"world_of": "change", "read_change": "text", "read_lot": "text", "lot_of": "changes",
        "then": "one other",
               "undone": "one", "often": "one times", "is_still": "one", "form": "lot", "cosets": "lot",
               "makes": "lot change",
               "plan_of": "lot change", "doing": "lot plan"},
    "leads": {"led": "lead row", "led_lot": "lead lot", "is_lost": "lead row", "keeps_apart": "lead",
        "lost_row": "lead",
              "web_into": "lead lot"},
    "fewest": {"presses": "lot change most", "first_presses": "lot change most", "spheres": "lot most"},
    "wishes": {"holds": "lot wish"}, "libraries": {"played": "log"}, "checker": {"accepts": "claim paper"},
    "certificates": {"certify_made": "lot change", "certify_same": "lot other_lot", "certify_alike": "one other",
                     "certify_root": "one degree", "certify_lost": "lead"}}
CLASSES = {
    "leads": {"Lead": ("changes", "__init__ read changes world text __len__ __eq__")},
    "boards": {"Board": ("lot", "__init__ press now plan lot __len__ undo trial tried")},
    "libraries": {"Library": ("", "__init__ put named drop wish lift undo trial tried names wishes changes __len__ log")},
    "console": {"Console": ("lot", "__init__ board say")}}


def change_functions(name):
    """Return the functions that all modules of changes have."""
    return {f"{name}_then": "one other", f"{name}_undone": "one", f"{name}_often": "one times", f"{name}_order": "one",
            f"{name}_gap": "one other", f"is_{name}_alike": "one other", f"{name}_alike": "one other",
            f"do_{name}s_commute": "one other", f"{name}_root": "one degree"}


def lot_functions(name):
    """Return the functions that all modules of lots have."""
    return {f"{name}_form": "lot", f"{name}_cosets": "lot", f"{name}_makes": "lot change", f"{name}_plan": "lot change",
            f"{name}_doing": "lot plan", f"same_{name}s": "lot other_lot", f"{name}s_within": "lot other_lot",
            f"needless_{name}s": "lot"}


def interface():
    """Return for each listed module with functions or classes their parameters and methods."""
    found = {}
    for module in LISTED[2:]:
        functions, classes = dict(MORE.get(module, {})), dict(CLASSES.get(module, {}))
        if module in NAMES:
            functions.update(change_functions(NAMES[module]))
            made, parameters = CHANGE_CLASSES[module]
            more = " __len__" if module in ("rows", "points") else ""
            classes[made] = (parameters, f"__init__ read __str__ __eq__ {parameters}{more}")
        name = module.removesuffix("lots")
        if module.endswith("lots"):
            functions.update(lot_functions(name))
            classes[name.title() + "Lot"] = ("changes", "__init__ read changes text __str__ __len__ __eq__")
        found[module] = (functions, classes)
    return found


def is_small(change):
    """Return whether a lot can be made of a change."""
    try:
        return bool(lot_of((change,)))
    except InvalidChanges:
        return False


class TestInterface(Case):
    def test_all_that_is_listed(self):
        for module, (functions, classes) in interface().items():
            check_defined(self, importlib.import_module("pressworlds." + module), functions, classes)

    def test_each_module_needs_only_those_listed_ahead_of_it(self):
        needs = {}
        for name in os.listdir(FOLDER):
            if name.endswith(".py"):
                with open(os.path.join(FOLDER, name), encoding="ascii") as file:
                    tree = ast.parse(file.read())
                needs[name[:-3]] = {node.module.split(".")[1] for node in ast.walk(tree) if isinstance(node,
                                    ast.ImportFrom)
                                    and node.module.startswith("pressworlds.")}
        for at, module in enumerate(LISTED):
            seen, todo = set(), {module}
            while todo:
                found = todo.pop()
                seen.add(found)
                todo |= needs[found] - seen
            self.assertEqual(sorted(seen & set(LISTED[at + 1:])), [], module)

    def test_errors_stand_under_one_base(self):
        bases = (errors.WrongValue, errors.WrongName, errors.NotPossible)
        for value in vars(errors).values():
            if isinstance(value, type) and value not in bases:
                self.assertEqual(sum(issubclass(value, base) for base in bases), 1)


class TestOneForm(Case):
    def test_changes_are_the_same_exactly_if_their_texts_are(self):
        rng = random.Random(1)
        for world in WORLDS:
            changes = [random_change(rng, world, 1) for _ in range(25)]
            changes += [then(one, other) for one in changes[:6] for other in changes[:6]]
            for one in changes:
                self.assertEqual(read_change(str(one)), one)
                for other in changes:
                    same = str(then(one, undone(other))) == str(still(world))
                    self.assertIs(one == other, str(one) == str(other))
                    self.assertIs(one == other, same)
                    self.assertIs(one != other, not same)

    def test_changes_of_unlike_worlds_are_never_equal(self):
        changes = [(world, still(world)) for world in WORLDS]
        for world, one in changes:
            for other_world, other in changes:
                self.assertIs(one == other, world == other_world)

    def test_lots_make_the_same_exactly_if_their_forms_are(self):
        rng = random.Random(2)
        seen = {True: 0, False: 0}
        for world in WORLDS * 3:
            lots = [random_lot(rng, world, 2) for _ in range(4)]
            lots += [lot_of(retold(rng, lot.changes, then, undone, is_small)) for lot in lots]
            for lot in lots:
                self.assertEqual(read_lot(lot.text), lot)
                for other in lots:
                    same = all(makes(other, told) for told in lot.changes) and all(makes(lot,
                            told) for told in other.changes)
                    seen[same] += 1
                    self.assertIs(form(lot) == form(other), same)
                    self.assertIs(certify_same(lot, other) is not None, same)
                    if same:
                        self.assertEqual(cosets(lot), cosets(other))
        self.assertGreater(min(seen.values()), 300)

    def test_made_exactly_if_shown(self):
        rng = random.Random(3)
        for world in WORLDS * 2:
            for _ in range(6):
                lot, change = random_lot(rng, world, 3), random_change(rng, world, 3)
                plan = plan_of(lot, change)
                self.assertIs(plan is not None, makes(lot, change))
                if plan is None:
                    self.assertIs(accepts(("misses", lot.text, str(change)), form(lot)), True)
                else:
                    self.assertIs(accepts(("makes", lot.text, str(change)), plan), True)


class TestCalls(Case):
    """Each function that takes changes, lots and the like, called with samples of each world."""

    def values_for(self, rng, module, world):
        """Return a dict from names of parameters to values."""
        change, other = random_change(rng, world, 2), random_change(rng, world, 2)
        lot, other_lot = random_lot(rng, world, 2), random_lot(rng, world, 2)
        values = {"one": change, "other": other, "change": change, "row": change, "lot": lot, "other_lot": other_lot,
                  "times": -3,
                  "degree": 2, "mark": 5, "point": (1, 2), "walk": "", "levels": 5, "text": str(change),
                  "plan": ((0, 2), (((0, -1),), 3)),
                  "changes": lot.changes, "most": 3, "wish": ("makes", str(change)), "log": (("put", "a", lot.text),),
                  "claim": ("makes", lot.text, str(change)), "paper": ((0, 1),), "lead": Lead(tuple(lot.changes[:4]))
                  if not world.startswith("rows") else Lead((change,))}
        if module == "leads":
            values["row"] = Row(len(values["lead"]), "aaA" + "a")
        return values

    def told(self, value):
        """Return a value in a way in which it can be compared, whatever object it is."""
        if isinstance(value, tuple):
            return tuple(self.told(part) for part in value)
        if isinstance(value, (Library, Board)):
            return value.log if isinstance(value, Library) else value.plan
        return (value.__class__.__name__, value.text if isinstance(value, Lead) else str(value))

    def test_equal_arguments_equal_results_and_nothing_is_changed(self):
        rng = random.Random(4)
        called = set()
        for world in WORLDS:
            own = {"rows": "rows", "grid": "points", "ruler": "slides", "screen": "views", "lamps": "rounds",
                    "areas": "moves"}
            kind = own[world.split(" ")[0]]
            modules = [kind, kind[:-1] + "lots"] + (["folds"] if kind == "rows" else []) + LISTED[LISTED.index("worlds"):]
            for module in modules:
                for name, parameters in interface()[module][0].items():
                    self.check_call(rng, module, name, parameters.split(), world)
                    called.add(name)
        self.assertEqual(called, {name for functions, _ in interface().values() for name in functions})

    def check_call(self, rng, module, name, parameters, world):
        call = getattr(importlib.import_module("pressworlds." + module), name)
        values = self.values_for(rng, module, world)
        if name == "led_lot":
            values["lot"] = lot_of((Row(len(values["lead"]), "a"),))
        if name == "read_lot":
            values["text"] = values["lot"].text
        args = [values[parameter] for parameter in parameters]
        before = [self.told(arg) for arg in args]
        again = copy.deepcopy(args)
        found = self.result(call, args)
        self.assertEqual(self.result(call, args), found, name)
        self.assertEqual(self.result(call, again), found, name)
        self.assertEqual([self.told(arg) for arg in args], before, name)

    def result(self, call, args):
        """Return what a call returns, in a way in which it can be compared, or the error that it raises."""
        try:
            return self.told(call(*args))
        except (errors.WrongValue, errors.WrongName, errors.NotPossible) as error:
            return error.__class__.__name__, str(error.__dict__)


class TestWays(Case):
    def test_two_ways_of_reckoning_meet(self):
        rng = random.Random(5)
        for world in WORLDS:
            for _ in range(10):
                lead = random_lead(rng, world, 2)
                board = Board(lot_of(lead.changes))
                word = "".join(rng.choice("abcd"[:len(lead)] + "ABCD"[:len(lead)]) for _ in range(5))
                for way in word:
                    board.press("abcd".index(way.lower()), 1 if way.islower() else -1)
                row = Row(len(lead), word)
                leads = importlib.import_module("pressworlds.leads")
                self.assertEqual(leads.led(lead, row), board.now)
                self.assertEqual(world_of(often(board.now, 0)), world)


if __name__ == "__main__":
    unittest.main()
