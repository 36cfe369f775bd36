"""The rules of the language, as far as they can be seen in the files of the package."""

import ast
import builtins
import keyword
import pathlib
import tokenize
import unittest

PACKAGE = pathlib.Path(__file__).resolve().parent.parent / "plantrace"
FILES = sorted(PACKAGE.rglob("*.py"))
LIBRARY = {
    "heapq": {"heappush", "heappop", "heapify", "heapreplace", "heappushpop"},
    "math": {"gcd", "lcm", "isqrt", "comb", "perm", "factorial"},
    "itertools": {"chain", "accumulate", "pairwise", "islice", "zip_longest"},
    "collections": {"defaultdict", "deque"},
}
BUILTINS = set(
    "len range enumerate zip min max sum abs sorted reversed int str bool list tuple dict set isinstance repr any all "
    "divmod iter next map super ValueError KeyError IndexError ZeroDivisionError NotImplemented".split()
)
METHODS = set(
    "append clear copy count endswith extend find get index insert isalnum isalpha isdigit islower isspace isupper "
    "items join keys ljust lower lstrip partition pop popleft appendleft remove replace reverse rfind rjust rpartition "
    "rsplit rstrip setdefault sort split splitlines startswith strip update upper values zfill bit_length add discard "
    "__init__".split()
)
STATEMENTS = (
    ast.Assign, ast.AugAssign, ast.If, ast.While, ast.For, ast.Return, ast.Break, ast.Continue, ast.Pass, ast.Raise,
    ast.Assert, ast.Delete, ast.Try, ast.Expr, ast.FunctionDef, ast.ClassDef, ast.ImportFrom, ast.Nonlocal,
)
BARRED = set("mro elements open input law version_info with_traceback add_note register".split())
WORDS = set(
    "type typing typing_extensions enum Enum IntEnum StrEnum Flag IntFlag Generic Protocol ABC ABCMeta namedtuple "
    "NamedTuple TypedDict TYPE_CHECKING abstractmethod dataclass overload contextmanager".split()
)
INTERFACE = {
    "errors": "PlantError BadPlant BadBill BoundedCurve TooMuch TooLarge CannotRun NoSuchUnit NotConvergent "
              "NothingToUndo",
    "curves": "value normal is_unbounded rate first_difference tabulated raised advanced delayed reduced minimum "
              "maximum total composed",
    "inverses": "lower_at upper_at lower_inverse upper_inverse",
    "deviations": "vertical horizontal last_exceedance first_above",
    "convolutions": "max_plus min_plus best_split",
    "routings": "branch normal_routing shares from_shares",
    "allocation": "optimal_routing optimal_output first_loss",
    "stages": "supports supported produced producing_cycle taken held use",
    "plants": "check_plant buffers materials products depends",
    "completion": "completed runnable is_balanced",
    "capacity": "capacities cycle_capacities",
    "requirements": "requirements shortages alone bottlenecks",
    "chains": "slowest_path limiting_chain requirement_path meets",
    "bills": "check_bill exploded buildable covers bill_plant",
    "disruptions": "disrupted loss worst_receipts",
    "states": "loaded is_state totals",
    "records": "record",
    "picking": "run_out waiting conflict",
    "ranges": "ranges_of numbers_of",
    "traces": "upstream downstream",
    "impact": "check_convergent path impact_curves greatest_impact spread origin",
    "inspections": "inspections exposure",
    "faults": "causes is_possible is_scenario is_valid is_defective defective_units is_consistent each_scenario",
    "diagnosis": "worst_cases recall suspects least_scenario explanations",
    "hours": "finish next_open latest_start greatest_elapsed both_open any_open complement put_off",
    "schedules": "earliest critical_chain is_feasible first_violation latest",
    "deliveries": "buffer_capacities",
    "costs": "apportioned unit_cost report",
    "liability": "damage liabilities recall_cost worst_scenario",
    "orders": "order_of dates earliest_due_date greatest_lateness shortfall expedited",
    "tracker": "Tracker",
}
TRACKER = set(
    "__init__ apply undo rehearse recall schedule order_dates affected_orders losses each_record replayed plant "
    "original state observations orders sequence log __len__ __iter__ __contains__".split()
)
PROPERTIES = set("plant original state observations orders sequence log".split())


def trees():
    return [(path, ast.parse(path.read_text(encoding="ascii"))) for path in FILES]


def bound_names(tree):
    """All names that a file binds, anywhere, but attributes and methods."""
    methods = {id(row) for node in ast.walk(tree) if isinstance(node, ast.ClassDef) for row in node.body}
    for node in ast.walk(tree):
        if isinstance(node, ast.Name) and not isinstance(node.ctx, ast.Load):
            yield node.id, node.lineno
        elif isinstance(node, ast.arg):
            yield node.arg, node.lineno
        elif isinstance(node, (ast.FunctionDef, ast.ClassDef)) and id(node) not in methods:
            yield node.name, node.lineno
        elif isinstance(node, ast.alias):
            yield node.asname or node.name, node.lineno


class LanguageTest(unittest.TestCase):
    def holds(self, wrong):
        self.assertEqual(list(wrong), [])

    def test_files(self):
        found = [path for path in PACKAGE.rglob("*") if "__pycache__" not in path.parts]
        self.holds(path for path in found if path.suffix != ".py" and not path.is_dir())
        self.assertIn(PACKAGE / "__init__.py", FILES)
        for path in FILES:
            rows = path.read_text(encoding="ascii").split("\n")
            self.assertLessEqual(len(rows), 400, path)
            self.holds((path.name, k) for k, row in enumerate(rows, 1) if len(row) > 120 or "\t" in row)
            self.holds((path.name, k) for k, row in enumerate(rows, 1) if not row.isprintable())

    def test_functions_are_short(self):
        self.holds(
            (path.name, node.name) for path, tree in trees() for node in ast.walk(tree)
            if isinstance(node, ast.FunctionDef) and node.end_lineno - node.lineno + 1 > 40
        )

    def test_imports(self):
        for path, tree in trees():
            imports = [node for node in ast.walk(tree) if isinstance(node, (ast.Import, ast.ImportFrom))]
            for node in imports:
                self.assertIsInstance(node, ast.ImportFrom, path)
                self.assertIn(node, tree.body, path)
                self.assertTrue(all(alias.asname is None for alias in node.names), path)
                names = {alias.name for alias in node.names}
                if node.module in LIBRARY:
                    self.assertLessEqual(names, LIBRARY[node.module], path)
                else:
                    self.defined_there(node.module, names)

    def defined_there(self, module, names):
        package, name = module.split(".")
        self.assertEqual(package, "plantrace")
        tree = ast.parse((PACKAGE / f"{name}.py").read_text())
        there = {node.name for node in tree.body if isinstance(node, (ast.FunctionDef, ast.ClassDef))}
        there |= {node.targets[0].id for node in tree.body if isinstance(node, ast.Assign)}
        self.assertLessEqual(names, there, module)

    def test_no_two_files_import_each_other(self):
        needs = {
            path.stem: {node.module.split(".")[1] for node in tree.body
                        if isinstance(node, ast.ImportFrom) and node.module.startswith("plantrace.")}
            for path, tree in trees()
        }
        while needs:
            free = [name for name in needs if not needs[name] & set(needs)]
            self.assertTrue(free, needs)
            for name in free:
                del needs[name]

    def test_statements_and_signs(self):
        wrong = (
            ast.Div, ast.Import, ast.Global, ast.AsyncFunctionDef, ast.Await, ast.MatMult,
        )
        for path, tree in trees():
            for node in ast.walk(tree):
                where = (path.name, getattr(node, "lineno", None))
                self.assertNotIsInstance(node, wrong, where)
                if isinstance(node, ast.stmt):
                    self.assertIsInstance(node, STATEMENTS, where)
                if isinstance(node, ast.Constant):
                    self.assertIsInstance(node.value, (int, str, bool, type(None)), where)
                    self.assertNotIn("%", str(node.value), where)
                if isinstance(node, ast.comprehension):
                    self.assertNotIsInstance(node.iter, (ast.Set, ast.SetComp), where)
                if isinstance(node, ast.Compare) and any(isinstance(op, (ast.Is, ast.IsNot)) for op in node.ops):
                    self.assertIsInstance(node.comparators[0], ast.Constant, where)

    def test_names(self):
        for path, tree in trees():
            for name, row in bound_names(tree):
                where = (path.name, row, name)
                self.assertFalse(hasattr(builtins, name), where)
                self.assertFalse(keyword.issoftkeyword(name) and name != "_", where)
                self.assertNotIn(name, BARRED, where)
                self.assertFalse(name.startswith("__"), where)

    def test_words_that_are_not_used(self):
        for path in FILES:
            with tokenize.open(path) as rows:
                tokens = list(tokenize.generate_tokens(rows.readline))
            self.assertFalse({token.string for token in tokens if token.type == tokenize.NAME} & WORDS, path)

    def test_no_local_name_hides_an_import_or_a_class(self):
        for path, tree in trees():
            taken = {alias.name for node in tree.body if isinstance(node, ast.ImportFrom) for alias in node.names}
            taken |= {node.name for node in tree.body if isinstance(node, (ast.ClassDef, ast.FunctionDef))}
            for node in tree.body:
                if isinstance(node, ast.FunctionDef):
                    names = {name for name, _ in bound_names(node)} - {node.name}
                    self.assertFalse(names & taken, (path.name, node.name, names & taken))

    def test_only_these_builtins_and_methods(self):
        for path, tree in trees():
            called = {node.func.id for node in ast.walk(tree)
                      if isinstance(node, ast.Call) and isinstance(node.func, ast.Name)}
            used = {name for name in called if hasattr(builtins, name)}
            self.assertLessEqual(used, BUILTINS, path)
            methods = {node.func.attr for node in ast.walk(tree)
                       if isinstance(node, ast.Call) and isinstance(node.func, ast.Attribute)}
            own = {row.name for node in tree.body if isinstance(node, ast.ClassDef)
                   for row in node.body if isinstance(row, ast.FunctionDef)}
            self.assertLessEqual(methods, METHODS | own, path)

    def test_each_name_is_bound_once_at_module_level(self):
        for path, tree in trees():
            names = [name for node in tree.body if not isinstance(node, (ast.FunctionDef, ast.ClassDef))
                     for name, _ in bound_names(node)]
            names += [node.name for node in tree.body if isinstance(node, (ast.FunctionDef, ast.ClassDef))]
            self.assertEqual(len(names), len(set(names)), path)

    def test_the_methods_of_the_tracker_are_its_own(self):
        tree = ast.parse((PACKAGE / "tracker.py").read_text())
        tracker, = [node for node in tree.body if isinstance(node, ast.ClassDef)]
        methods = {row.name: row for row in tracker.body if isinstance(row, ast.FunctionDef)}
        self.assertEqual(tracker.bases, [])
        self.assertLessEqual(TRACKER, set(methods))
        decorators = {name: [mark.id for mark in row.decorator_list] for name, row in methods.items()}
        wanted = {name: ["property"] if name in PROPERTIES else [] for name in methods}
        self.assertEqual(decorators, {**wanted, "replayed": ["classmethod"]})

    def test_decorators_stand_over_methods_of_the_tracker_alone(self):
        for path, tree in trees():
            marked = [node.name for node in ast.walk(tree)
                      if isinstance(node, (ast.FunctionDef, ast.ClassDef)) and node.decorator_list]
            self.assertTrue(path.stem == "tracker" or not marked, path)

    def test_generators_are_iterated_at_once(self):
        """A call of a generator stands in the head of a for or behind `yield from`."""
        functions = [node for _, tree in trees() for node in ast.walk(tree) if isinstance(node, ast.FunctionDef)]
        names = [node.name for node in functions]
        generators = {node.name for node in functions if any(isinstance(row,
            (ast.Yield, ast.YieldFrom)) for row in ast.walk(node))}
        self.assertEqual(generators, {"each_scenario", "each_choice", "each_record"})
        self.assertTrue(all(names.count(name) == 1 for name in generators))
        for path, tree in trees():
            heads = [node.iter for node in ast.walk(tree) if isinstance(node, ast.For)]
            heads += [node.value for node in ast.walk(tree) if isinstance(node, ast.YieldFrom)]
            used = [node for node in ast.walk(tree) if isinstance(node, ast.Name) and node.id in generators]
            called = [head.func for head in heads if isinstance(head, ast.Call)]
            self.holds((path.name, node.lineno) for node in used if node not in called)

    def test_the_interface_is_defined_where_it_is_listed(self):
        for stem, names in INTERFACE.items():
            tree = ast.parse((PACKAGE / f"{stem}.py").read_text())
            there = {node.name for node in tree.body if isinstance(node, (ast.FunctionDef, ast.ClassDef))}
            self.assertLessEqual(set(names.split()), there, stem)


if __name__ == "__main__":
    unittest.main()
