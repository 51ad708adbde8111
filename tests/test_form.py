"""The form of the package: the interface as written, and rules of the subset that can be seen in the code."""

import ast
import builtins
import importlib
import inspect
import re
import unittest
from pathlib import Path

FOLDER = Path(__file__).resolve().parent.parent / "lookmade"
LIBRARY = {"math": {"gcd", "lcm", "isqrt", "comb", "perm", "factorial"}}
BUILTINS = set(
    "len range enumerate zip min max sum abs sorted reversed int str bool list tuple dict set isinstance ord repr any all "
    "divmod ValueError KeyError".split()
)
BARRED = (
    "typing typing_extensions enum Enum IntEnum StrEnum Flag IntFlag Generic Protocol ABC ABCMeta namedtuple NamedTuple "
    "TypedDict TYPE_CHECKING abstractmethod type register mro elements open input law eval exec globals locals vars super "
    "_wall _WallAttr global async"
).split()
METHODS = {"__init__", "__eq__", "__str__", "__bool__"}
INTERFACE = {
    "errors": ["LookError", "Nothing", "NoName(value)", "Twice(value)", "TooMany(what, most)", "BadText(line, item)",
               "BadLine(line, error)", "BadNumber(part)", "BadAmount(part)", "BadSpread(part)", "BadProgram(part)",
               "BadNet(part)", "BadLots(part)", "BadOrder(part)", "BadFalls(part)", "BadSecrets(part)", "BadPaper(part)",
               "Misfit(part)"],
    "checks": ["is_integer(value)", "is_within(value, least, most)", "is_bit(value)", "is_turn(value)", "is_amount(value)",
               "is_spread(value)", "is_lot(value)"],
    "papers": ["Paper(word, *parts)", "Denial(word, *parts)", "fixed(value)"],
    "amounts": ["added(one, other)", "multiplied(one, other)", "turned(amount, turn)", "mirrored(amount)",
                "length_of(amount)"],
    "spreads": ["places_in(spread)", "length(spread)", "plain_form(spread)", "are_alike(one, other)", "even(many)",
                "of_bits(bits)", "beside(one, other)", "grown(spread)", "placed(spread, order)",
                "turned_at(spread, place, turn)", "signed(spread, place)", "exchanged(spread, place)",
                "mixed(spread, place)", "tied(spread, one, other)", "looked(spread, place, turn, fall)",
                "shares(spread, place, turn)", "is_even(spread, place, turn)"],
    "programs": ["is_deed(value, wires)", "Program(wires, deeds)", "basic(program)", "odd_turns(program)",
                 "undone(program)", "joined(one, other)", "aside(one, other)"],
    "meanings": ["meaning(program, spread)", "readings(program, spread)"],
    "nets": ["Net(things, strings, given, kept, turns)", "neighbours(net, thing)", "oddly_met(net, lot)",
             "turn_of(net, thing)", "with_turns(net, turns)", "joined_nets(one, other)", "aside_nets(one, other)"],
    "looks": ["begun(net, spread)", "bare_end(net, spread, order, falls)", "bare_lengths(net, spread, order, falls)"],
    "lots": ["Lots(layers, lots)", "Stuck(left, shows)", "Fewest(layers, shows)", "lots_of(net)", "has_lots(net)",
             "fewest(net)"],
    "check_lots": ["shows_lots(net, value)", "shows_fewest(net, value)"],
    "waits": ["waits(net, paper, thing)", "is_let(net, paper, order)", "first_order(net, paper)", "most_live(net, order)"],
    "runs": ["turn_now(net, paper, thing, falls)", "end_of(net, paper, spread, order, falls)"],
    "players": ["Player(net, paper, spread)"],
    "made": ["net_of(program)", "lots_for(program)"],
    "walls": ["shape(wires, columns)", "wall_lots(wires, columns)", "paired(wires, column)"],
    "bricks": ["bricks_of(program)", "columns_of(program)", "words_of(program, columns)", "wall_of(program, columns)",
               "bricks_in(words)"],
    "lesser": ["may_quarter(net, thing)", "may_pair(net, one, other)", "quarter(net, thing)", "pair(net, one, other)",
               "Lesser(steps, net)", "lesser(net)", "odd_in(net)"],
    "check_lesser": ["shows_lesser(net, value)"],
    "houses": ["waves(net, paper)", "rounds(net, paper, hands)", "House(net, paper, spread, hands)"],
    "askers": ["asked_net(program)", "Asker(net, paper, secrets)"],
    "strangers": ["Stranger(things, strings, sent)"],
    "ways": ["ways_to(net, paper, told, falls)"],
    "pictures": ["picture(net, paper)", "course(net, paper, heard)"],
    "desk": ["Desk(wires)"],
    "scripts": ["played(wires, lines)"],
}
CLASS_METHODS = {
    ("players", "Player"): ["ready(self)", "asks(self, thing)", "look(self, thing, fall)", "end(self)"],
    ("houses", "House"): ["give(self, hand)", "hears(self, thing, fall)", "lost(self, hand)", "end(self)"],
    ("askers", "Asker"): ["ready(self)", "asks(self, thing)", "hears(self, thing, fall)", "bits(self)"],
    ("strangers", "Stranger"): ["looks(self, thing, turn, fall)"],
    ("desk", "Desk"): ["tell(self, line)"],
}
# The methods of strings, lists and dicts that may be called.
OFTEN = (
    "append clear copy count endswith extend find get index insert isalnum isalpha isdigit islower isspace isupper items join "
    "keys ljust lower lstrip partition pop remove replace reverse rfind rjust rpartition rsplit rstrip setdefault split "
    "splitlines startswith strip update upper values zfill bit_length add discard"
).split()


def files():
    return {path.stem: path.read_bytes().decode("utf-8") for path in sorted(FOLDER.glob("*.py"))}


def trees():
    return {name: ast.parse(text) for name, text in files().items()}


def functions(tree):
    return [node for node in ast.walk(tree) if isinstance(node, ast.FunctionDef)]


def imports(tree):
    """The pairs (module, name) that a file imports."""
    return [(node.module, told.name) for node in ast.walk(tree) if isinstance(node, ast.ImportFrom) for told in node.names]


def bound(function):
    """The names that a function binds: its parameters and its local variables."""
    stored = {node.id for node in ast.walk(function) if isinstance(node, ast.Name) and not isinstance(node.ctx, ast.Load)}
    stored |= {node.name for node in ast.walk(function) if isinstance(node, ast.ExceptHandler)}
    return stored | {node.arg for node in ast.walk(function) if isinstance(node, ast.arg)}


class InterfaceTest(unittest.TestCase):
    def test_names_and_arguments(self):
        for module, told in INTERFACE.items():
            held = importlib.import_module(f"lookmade.{module}")
            defined = {node.name for node in trees()[module].body if isinstance(node, (ast.FunctionDef, ast.ClassDef))}
            for one in told:
                name = one.split("(")[0]
                self.assertIn(name, defined)
                if "(" in one:
                    self.assertEqual(name + str(inspect.signature(getattr(held, name))), one)

    def test_read(self):
        for module, name in (("programs", "Program"), ("nets", "Net")):
            made = getattr(importlib.import_module(f"lookmade.{module}"), name)
            self.assertEqual(str(inspect.signature(made.read)), "(text)")
            self.assertIsInstance(vars(made)["read"], (staticmethod, classmethod))


    def test_methods_of_classes(self):
        for (module, name), told in CLASS_METHODS.items():
            made = getattr(importlib.import_module(f"lookmade.{module}"), name)
            for one in told:
                method = one.split("(")[0]
                self.assertIn(method, vars(made))
                self.assertEqual(method + str(inspect.signature(vars(made)[method])), one)


class FormTest(unittest.TestCase):
    def test_the_folder_holds_python_files_alone(self):
        names = [path.name for path in FOLDER.iterdir() if path.name != "__pycache__"]
        self.assertIn("__init__.py", names)
        for name in names:
            self.assertRegex(name, r"^[a-z_0-9]+\.py$")

    def test_characters_and_sizes(self):
        for name, text in files().items():
            self.assertLessEqual(set(text), set(map(chr, range(32, 127))) | {"\n"}, name)
            lines = text.split("\n")
            self.assertLessEqual(len(lines), 399, name)
            self.assertLessEqual(max(map(len, lines)), 120, name)
            for function in functions(trees()[name]):
                self.assertLessEqual(function.end_lineno - function.lineno + 1, 40, f"{name}.{function.name}")

    def test_barred_words(self):
        for name, text in files().items():
            for word in BARRED:
                self.assertIsNone(re.search(rf"\b{word}\b", text), f"{word} in {name}")
            self.assertNotIn("_wall", text, name)

    def test_imports(self):
        held = trees()
        for name, tree in held.items():
            self.assertFalse([node for node in ast.walk(tree) if isinstance(node, ast.Import)], name)
            for module, told in imports(tree):
                if module in LIBRARY:
                    self.assertIn(told, LIBRARY[module])
                    continue
                self.assertRegex(module, r"^lookmade\.[a-z_]+$")
                here = held[module.split(".")[1]].body
                names = {node.name for node in here if isinstance(node, (ast.FunctionDef, ast.ClassDef))}
                names |= {one.id for node in here if isinstance(node, ast.Assign) for one in node.targets}
                self.assertIn(told, names, f"{name} takes {told} from {module}")

    def test_no_files_import_one_another(self):
        below = {name: {module.split(".")[1] for module, _ in imports(tree) if module.startswith("lookmade.")}
                 for name, tree in trees().items()}
        while below:
            ready = [name for name in below if not below[name]]
            self.assertTrue(ready, below)
            below = {name: rest - set(ready) for name, rest in below.items() if name not in ready}

    def test_statements_and_expressions(self):
        wrong = (
            ast.GeneratorExp, ast.Div, ast.Global, ast.Lambda, ast.AsyncFunctionDef, ast.Yield, ast.AnnAssign,
        )
        for name, tree in trees().items():
            for node in ast.walk(tree):
                self.assertNotIsInstance(node, wrong, name)
                if isinstance(node, ast.Constant):
                    self.assertNotIsInstance(node.value, (float, complex))
                    self.assertFalse(isinstance(node.value, str) and "%" in node.value, name)
                if isinstance(node, ast.Try):
                    # Errors of the package alone are caught, by name.
                    self.assertEqual(([ast.dump(one.type) for one in node.handlers], node.orelse, node.finalbody),
                                     ([ast.dump(ast.parse("LookError", mode="eval").body)], [], []))
                if isinstance(node, ast.Compare) and any(isinstance(op, (ast.Is, ast.IsNot)) for op in node.ops):
                    self.assertIsInstance(node.comparators[0], ast.Constant)
                if isinstance(node, ast.BinOp) and isinstance(node.op, ast.Pow):
                    self.assertIsInstance(node.right, ast.Constant)
                if isinstance(node, (ast.FunctionDef, ast.ClassDef)):
                    self.assertTrue(ast.get_docstring(node) or node.name in METHODS, f"{name}.{node.name}")
                if isinstance(node, ast.FunctionDef):
                    self.assertIn([one.id for one in node.decorator_list], ([], ["staticmethod"]))

    def test_names(self):
        for name, tree in trees().items():
            brought = {told for _, told in imports(tree)}
            classes = {node.name for node in tree.body if isinstance(node, ast.ClassDef)}
            tops = [node.name for node in tree.body if isinstance(node, (ast.FunctionDef, ast.ClassDef))]
            tops += [one.id for node in tree.body if isinstance(node, ast.Assign) for one in node.targets]
            self.assertEqual(len(tops), len(set(tops)), name)
            self.assertFalse((set(tops) | brought) & set(dir(builtins)), name)
            self.assertFalse(set(tops) & brought, name)
            known = set(tops) | brought | BUILTINS | {"staticmethod"}
            for function in functions(tree):
                self.assertFalse(bound(function) & (brought | classes | set(dir(builtins))), f"{name}.{function.name}")
                read = {node.id for node in ast.walk(function) if isinstance(node, ast.Name)}
                self.assertLessEqual(read - bound(function), known, f"{name}.{function.name}")

    def test_methods_that_are_called(self):
        own = {node.name for tree in trees().values() for node in functions(tree)}
        for name, tree in trees().items():
            for node in ast.walk(tree):
                if isinstance(node, ast.Call) and isinstance(node.func, ast.Attribute):
                    self.assertIn(node.func.attr, own | set(OFTEN), name)

    def test_attributes(self):
        stored = {node.attr for tree in trees().values() for node in ast.walk(tree)
                  if isinstance(node, ast.Attribute) and isinstance(node.ctx, ast.Store)}
        taken = {one for value in (str, list, dict, set, int, bytes, tuple) for one in dir(value)}
        self.assertFalse(stored & taken)
        for name, tree in trees().items():
            called = [node.func for node in ast.walk(tree) if isinstance(node, ast.Call)]
            for node in ast.walk(tree):
                if isinstance(node, ast.Attribute) and isinstance(node.ctx, ast.Load) and node not in called:
                    self.assertIn(node.attr, stored | {"__class__", "__name__"}, name)
            for node in tree.body:
                if isinstance(node, ast.ClassDef):
                    told = {one.name for one in node.body if isinstance(one, ast.FunctionDef)}
                    self.assertFalse(told & stored, f"{name}.{node.name}")

    def test_methods(self):
        for name, tree in trees().items():
            for node in tree.body:
                if isinstance(node, ast.ClassDef):
                    told = [one.name for one in node.body if isinstance(one, ast.FunctionDef)]
                    self.assertEqual(len(told), len(set(told)))
                    self.assertLessEqual({one for one in told if one.startswith("__")}, METHODS, f"{name}.{node.name}")


if __name__ == "__main__":
    unittest.main()
