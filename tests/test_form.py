"""The form of the package: what of ../shared/LANGUAGE.md can be seen from the files, and the interface's names."""

import ast
import builtins
import re
import unittest
from pathlib import Path

PACKAGE = Path(__file__).resolve().parent.parent / "twoabove"
FILES = sorted(PACKAGE.glob("*.py"))
INTERFACE = {
    "basics": "is_integer(value) is_count(value)",
    "lots": "is_lot(shelves,value) joined(shelves,lot,other) without(shelves,lot,other) common(shelves,lot,other) "
            "is_within(shelves,lot,other)",
    "stores": "Store(self,shelves,deliveries,sales) with_delivery(store,kind) with_sale(store,kind) "
              "without_delivery(store,position) without_sale(store,position) renamed(store,order) "
              "beside(store,other) named(store)",
    "boards": "is_board(store,value) total(store,board) height(store,board) level_lot(store,board,level) "
              "falling_lots(store,board) board_of(store,lots) least_of(store,board,kind) most_of(store,board,kind)",
    "rows": "row_lot(store,row) is_flat_row(store,lot,value) flat_row(store,lot)",
    "flats": "flat_lots(store) is_flat(store,lot) closure(store,lots) is_closed(store,value) "
             "flat_parting(store,other)",
    "deeds": "put_shelves(store,board,position) take_shelves(store,board,position) done(store,board,deed) "
             "played(store,board,history) boards(store,board,history) first_barred(store,board,history)",
    "histories": "blown(store,row,height)",
    "sandwiches": "is_sandwich(store,board,value) board_sandwich(store,board) sandwich(store,history)",
    "aboves": "never_two_above(store,shelf,other) never_table(store) above_row(store,shelf,other) "
              "is_above_row(store,shelf,other,value) blame(store,shelf,other) level_groups(store)",
    "weights": "lot_weight(store,weights,lot) stays_below(store,weights) closed_paper(store,weights) "
               "is_closed_paper(store,weights,value) rising_row(store,weights) is_rising_row(store,weights,value) "
               "bound(store,weights) never_more(store,lot,other)",
    "looks": "comes(store,board,wished) givers(store,board,wished) are_givers(store,board,wished,value) "
             "bar(store,board,wished) is_bar(store,board,wished,value) way(store,board,wished)",
    "sellings": "goes(store,board,wished) takers(store,board,wished) are_takers(store,board,wished,value) "
                "stop(store,board,wished) is_stop(store,board,wished,value) way_down(store,board,wished)",
    "ties": "put_by(store,order,board,position) comes_by(store,order,board,wished) "
            "givers_by(store,order,board,wished) are_givers_by(store,order,board,wished,value) "
            "way_by(store,order,board,wished) never_above(store,order,shelf,other) "
            "above_lot(store,order,shelf,other) is_above_lot(store,order,shelf,other,value)",
    "levels": "supported(store,lot) can_come(store,board) how_many(store,total) boards_with(store,total) "
              "numbered(store,total,number) number_of(store,board)",
    "sums": "greatest(store,weights) greatest_board(store,weights)",
    "tolds": "places(store,board,wished,position) can_end(store,board,counts,wished) "
             "dealing(store,board,counts,wished) is_dealing(store,board,counts,wished,value) "
             "crowd(store,board,counts,wished) is_crowd(store,board,counts,wished,value) "
             "told_way(store,board,counts,wished)",
    "ends": "row_ends(store,board,positions) all_ends(store,board,counts) span(store,board,counts,shelf) "
            "is_one_end(store,board,counts) two_histories(store,board,counts)",
    "fullest": "most_shelves(store,board,position) comes_fullest(store,wished) peeling(store,wished) "
               "is_peeling(store,wished,value) stuck(store,wished) is_stuck(store,wished,value) "
               "fullest_way(store,wished)",
    "changes": "changed(store,changes) fewest_changes(store,shelf,other) mending(store,shelf,other) "
               "is_mending(store,shelf,other,value) lost_pairs(store,kind) lost_by_sale(store,kind)",
    "texts": "store_text(store) board_text(store,board) lot_text(store,lot) weights_text(store,weights) "
             "counts_text(store,counts) order_text(store,order) history_text(store,history)",
    "readers": "read_store(text) read_board(store,text) read_lot(store,text) read_weights(store,text) "
               "read_counts(store,text) read_order(store,text) read_history(store,text)",
    "claims": "words() is_claim(value) is_true(claim) contrary(claim) paper_of(claim) is_paper_of(claim,value)",
    "commands": "is_name(value) is_command(value) is_desk_deed(value)",
    "desk": "Desk(self) Trial(self,desk) tried(desk,action)",
    "leans": "lean(store) needless(store) lets_all(store,other) parting(store,other) is_parting(store,other,value)",
}
METHODS = {
    "Store": {"__init__", "shelves", "deliveries", "sales", "__eq__"},
    "Desk": set(
        "__init__ names labels __len__ __getitem__ __contains__ claim_of do __call__ do_all attempt attach fits lines "
        "copy again".split()
    ),
    "Trial": {"__init__", "__enter__", "__exit__"},
}
SIGNATURES = {
    "Desk": "claim_of(self,label) do(self,command) __call__(self,command) do_all(self,*commands) "
            "attempt(self,*commands) attach(self,label,paper) fits(self,label) lines(self) copy(self) again(cls,lines)",
    "Store": "deliveries(self) sales(self)",
}
STATEMENTS = (
    ast.Module, ast.Import, ast.ImportFrom, ast.FunctionDef, ast.ClassDef, ast.Assign, ast.AugAssign, ast.If, ast.While,
    ast.For, ast.Return, ast.Break, ast.Continue, ast.Pass, ast.Raise, ast.Assert, ast.Delete, ast.Try, ast.Expr,
    ast.With, ast.Match,
)
DUNDERS = set(
    "__init__ __eq__ __repr__ __str__ __len__ __enter__ __exit__ __call__ __iter__ __contains__ __getitem__".split()
)
CALLED = set(
    "append clear copy count endswith extend find get index insert isdigit items join keys partition pop remove "
    "replace reverse setdefault split startswith strip update values".split()
)
BUILTINS = set(
    "len range enumerate zip min max sum abs sorted reversed int str bool bytes list tuple dict set isinstance ord "
    "repr any all divmod pow iter next map property staticmethod classmethod Exception ValueError TypeError KeyError "
    "IndexError LookupError ZeroDivisionError ArithmeticError OverflowError RuntimeError NotImplementedError "
    "AttributeError StopIteration NotImplemented super".split()
)
BARRED_NAMES = set("register mro elements open input law version_info with_traceback add_note".split())
BARRED_WORDS = set(
    "type typing typing_extensions enum Enum IntEnum StrEnum Flag IntFlag Generic Protocol ABC ABCMeta namedtuple "
    "NamedTuple TypedDict TYPE_CHECKING abstractmethod dataclass overload contextmanager".split()
)


def tree_of(path):
    return ast.parse(path.read_text())


def bound_names(tree):
    """The names that functions, classes, parameters, assignments, loops and handlers of a file bind."""
    for node in ast.walk(tree):
        if isinstance(node, (ast.FunctionDef, ast.ClassDef)):
            yield node.name
        elif isinstance(node, ast.arg):
            yield node.arg
        elif isinstance(node, ast.Name) and not isinstance(node.ctx, ast.Load):
            yield node.id
        elif isinstance(node, ast.ExceptHandler) and node.name:
            yield node.name
        elif isinstance(node, ast.ImportFrom):
            yield from (told.asname or told.name for told in node.names)


def top_names(tree):
    """The names that a file binds at its module level, imports included."""
    names = []
    for node in tree.body:
        if isinstance(node, (ast.FunctionDef, ast.ClassDef)):
            names.append(node.name)
        elif isinstance(node, ast.Assign):
            names.extend(target.id for target in node.targets)
        elif isinstance(node, ast.ImportFrom):
            names.extend(told.name for told in node.names)
    return names


def own_names(tree):
    """The names that a file itself defines at its module level."""
    imported = [told.name for node in tree.body if isinstance(node, ast.ImportFrom) for told in node.names]
    return [name for name in top_names(tree) if name not in imported]


def docstrings(tree):
    holders = [node for node in ast.walk(tree) if isinstance(node, (ast.Module, ast.ClassDef, ast.FunctionDef))]
    return [node.body[0].value for node in holders if ast.get_docstring(node) is not None]


class FilesTest(unittest.TestCase):
    def test_nothing_but_plain_files(self):
        inside = [path for path in PACKAGE.iterdir() if path.name != "__pycache__"]
        self.assertEqual(sorted(inside), FILES)
        for path in FILES:
            self.assertRegex(path.name, r"\A(__init__|[a-z][a-z0-9_]*)\.py\Z")

    def test_sizes_and_signs(self):
        for path in FILES:
            text = path.read_text()
            self.assertTrue(all(sign == "\n" or " " <= sign <= "~" for sign in text), path)
            self.assertLessEqual(text.count("\n"), 399, path)
            self.assertLessEqual(max(len(line) for line in text.split("\n")), 120, path)
            for node in ast.walk(ast.parse(text)):
                if isinstance(node, ast.FunctionDef):
                    self.assertLessEqual(node.end_lineno - node.lineno + 1, 40, (path, node.name))

    def test_no_import_cycle(self):
        needs = {path.stem: set() for path in FILES}
        for path in FILES:
            for node in ast.walk(tree_of(path)):
                if isinstance(node, ast.ImportFrom) and node.module.startswith("twoabove."):
                    needs[path.stem].add(node.module.split(".")[1])
        while needs:
            free = [name for name, wanted in needs.items() if not wanted]
            self.assertTrue(free, f"these import each other: {sorted(needs)}")
            needs = {name: wanted - set(free) for name, wanted in needs.items() if name not in free}


class CodeTest(unittest.TestCase):
    def test_imports_name_the_defining_file(self):
        own = {f"twoabove.{path.stem}": own_names(tree_of(path)) for path in FILES}
        for path in FILES:
            for node in ast.walk(tree_of(path)):
                self.assertNotIsInstance(node, ast.Import, path)
                if isinstance(node, ast.ImportFrom):
                    self.assertEqual(node.level, 0)
                    for told in node.names:
                        self.assertIn(told.name, own[node.module], path)
                        self.assertIsNone(told.asname)

    def test_statements(self):
        for path in FILES:
            for node in ast.walk(tree_of(path)):
                if isinstance(node, (ast.stmt, ast.mod)):
                    self.assertIsInstance(node, STATEMENTS, (path, node))
                self.assertNotIsInstance(node, (ast.GeneratorExp, ast.Yield, ast.YieldFrom, ast.Await), path)
                if isinstance(node, ast.FunctionDef):
                    told = [name.id for name in node.decorator_list]
                    self.assertIn(told, ([], ["property"], ["classmethod"], ["staticmethod"]), path)
                if isinstance(node, ast.Constant):
                    self.assertNotIsInstance(node.value, (float, complex), path)
                    self.assertFalse(isinstance(node.value, str) and "%" in node.value, path)
                self.assertNotIsInstance(node, ast.Div, path)

    def test_names(self):
        for path in FILES:
            tree = tree_of(path)
            for name in bound_names(tree):
                if name not in DUNDERS:
                    self.assertFalse(hasattr(builtins, name), (path, name))
                    self.assertNotIn(name, BARRED_NAMES, path)
                    self.assertRegex(name, r"\A(_|_?[A-Za-z][A-Za-z0-9_]*)\Z")
            for node in ast.walk(tree):
                if isinstance(node, ast.Name) and hasattr(builtins, node.id):
                    self.assertIn(node.id, BUILTINS, path)

    def test_each_name_is_bound_once(self):
        for path in FILES:
            tree = tree_of(path)
            names = top_names(tree)
            self.assertEqual(len(names), len(set(names)), path)
            taken = set(names) - set(own_names(tree))
            taken |= {node.name for node in tree.body if isinstance(node, ast.ClassDef)}
            for node in ast.walk(tree):
                if isinstance(node, ast.FunctionDef):
                    self.assertFalse(set(bound_names(node)) & taken, (path, node.name))

    def test_words(self):
        for path in FILES:
            tree = tree_of(path)
            told = docstrings(tree)
            words = [node.id for node in ast.walk(tree) if isinstance(node, ast.Name)]
            words += [node.attr for node in ast.walk(tree) if isinstance(node, ast.Attribute)]
            for node in ast.walk(tree):
                if isinstance(node, ast.Constant) and isinstance(node.value, str) and node not in told:
                    words += re.findall(r"\w+", node.value)
            self.assertFalse(set(words) & BARRED_WORDS, path)

    def test_module_level(self):
        for path in FILES:
            for node in tree_of(path).body:
                self.assertIsInstance(node, (ast.Expr, ast.ImportFrom, ast.FunctionDef, ast.ClassDef, ast.Assign), path)
                if isinstance(node, ast.Assign):
                    inner = [part for part in ast.walk(node.value) if part is not node.value]
                    self.assertFalse([part for part in inner if isinstance(part, (ast.List, ast.Dict, ast.Set))], path)
                    self.assertFalse([part for part in ast.walk(node.value) if isinstance(part, ast.Call)], path)

    def test_calls(self):
        own = {node.name for path in FILES for node in ast.walk(tree_of(path)) if isinstance(node, ast.FunctionDef)}
        for path in FILES:
            for node in ast.walk(tree_of(path)):
                if not isinstance(node, ast.Call):
                    continue
                self.assertEqual(node.keywords, [], path)
                for told in node.args:
                    if isinstance(told, ast.Starred):
                        self.assertIsInstance(told.value, ast.Name, path)
                if isinstance(node.func, ast.Attribute):
                    self.assertIn(node.func.attr, own | CALLED, path)
                else:
                    self.assertIsInstance(node.func, ast.Name, path)

    def test_no_lambda_no_nested_function_no_decorated_class(self):
        for path in FILES:
            for node in ast.walk(tree_of(path)):
                self.assertNotIsInstance(node, (ast.Lambda, ast.Set, ast.NamedExpr, ast.Global, ast.Nonlocal), path)
                if isinstance(node, ast.FunctionDef):
                    inner = [part for part in ast.walk(node) if isinstance(part, ast.FunctionDef) and part is not node]
                    self.assertEqual(inner, [], path)
                if isinstance(node, ast.ClassDef):
                    self.assertEqual(node.decorator_list, [], path)
                if isinstance(node, ast.JoinedStr):
                    texts = [part for told in node.values if isinstance(told, ast.FormattedValue) for part in
                             ast.walk(told.value) if isinstance(part, ast.Constant) and isinstance(part.value, str)]
                    self.assertEqual(texts, [], path)

    def test_sets_are_used_on_the_spot(self):
        # A set stands in sorted or len, or beside another set that does.
        for path in FILES:
            tree = tree_of(path)
            above = {inner: node for node in ast.walk(tree) for inner in ast.iter_child_nodes(node)}
            for node in ast.walk(tree):
                called = isinstance(node, ast.Call) and isinstance(node.func, ast.Name) and node.func.id == "set"
                if called or isinstance(node, ast.SetComp):
                    holder = above[node]
                    while isinstance(holder, ast.BinOp):
                        holder = above[holder]
                    self.assertIsInstance(holder, ast.Call, path)
                    self.assertIn(holder.func.id, ("sorted", "len"), path)

    def test_judges_take_lists(self):
        # Store has an __eq__, so that sorted, any, all and their kin take no generator.
        for path in FILES:
            for node in ast.walk(tree_of(path)):
                if isinstance(node, ast.Call) and isinstance(node.func, ast.Name) and node.func.id in ("any", "all"):
                    self.assertIsInstance(node.args[0], (ast.ListComp, ast.Name), path)


def names_of(function):
    """The names of a function's parameters."""
    told = [arg.arg for arg in function.args.args]
    return told + ([f"*{function.args.vararg.arg}"] if function.args.vararg else [])


class InterfaceTest(unittest.TestCase):
    def test_defined_where_it_is_listed(self):
        for stem, listed in INTERFACE.items():
            defined = {}
            for node in tree_of(PACKAGE / f"{stem}.py").body:
                if isinstance(node, ast.ClassDef):
                    inner = {part.name: names_of(part) for part in node.body if isinstance(part, ast.FunctionDef)}
                    defined[node.name] = inner["__init__"]
                    self.assertLessEqual(METHODS.get(node.name, set()), set(inner))
                    for told in SIGNATURES.get(node.name, "").split():
                        name, _, names = told.rstrip(")").partition("(")
                        self.assertEqual(inner[name], names.split(","), (stem, name))
                elif isinstance(node, ast.FunctionDef):
                    defined[node.name] = names_of(node)
            for told in listed.split():
                name, _, names = told.rstrip(")").partition("(")
                self.assertEqual(defined.get(name), [one for one in names.split(",") if one], (stem, name))


if __name__ == "__main__":
    unittest.main()
