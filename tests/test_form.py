"""The interface's files, names and parameters, and the form of the package's files."""

import ast
import builtins
import functools
import importlib
import inspect
import pathlib
import re
import unittest

ROOT = pathlib.Path(__file__).resolve().parent.parent / "mustcross"
FILES = sorted(ROOT.glob("*.py"))

INTERFACE = {
    "noticetexts": ["notice_text(notice)", "read_notice(text)", "notice_fault(text)", "notice_goes_on(text)"],
    "answertexts": ["answer_text(answer)", "read_answer(text)", "answer_fault(text)"],
    "ways": ["way_fault(board, thing)"],
    "apart": ["ways_apart(board, some, others)", "apart_fault(board, some, others, thing)",
              "one_more(board, some, others, ways)"],
    "partings": ["parting(board, some, others)", "is_parting(board, some, others, thing)",
                 "parts_how(board, some, others, place)", "count_partings(board, some, others)",
                 "parting_at(board, some, others, number)"],
    "fans": ["fan(board, place, others)", "fan_parting(board, place, others)"],
    "passed": ["must_pass(board, some, others)"],
    "pieces": ["feet(board, places)", "is_piece(board, thing)", "least_feet(board, place)",
               "piece_with(board, place, number)", "ways_out(board, place, number)"],
    "nests": ["least_piece(board, place)", "greatest_piece(board, place)"],
    "folding": ["folded(board, piece)", "fold_row(board)", "thinned(board)"],
    "ledways": ["led_in(board, piece, ways)", "led_out(board, piece, ways)"],
    "crosses": ["cross(board)", "is_cross(board, thing)"],
    "pictures": ["picture(board)", "picture_fault(board, thing)", "is_picture(board, thing)"],
    "bothways": ["has_cross(board)", "thinned_to_cross(board)"],
    "drawings": ["drawing(board)", "drawing_fault(board, thing)", "faces(board, drawing)",
                 "share_face(board, drawing, one, other)", "mirrored(board, drawing)"],
    "bars": ["bar(board)", "bar_fault(board, thing)", "cross_bar(board, cross)"],
    "laying": ["laying_fault(board, thing)", "laid(board)", "read_off(board, laying)"],
    "twos": ["two_joined(board, one, two)", "two_board(board, one, two)", "two_picture(board, one, two)",
             "pairings(board)", "calm_pins(board)"],
    "joined": ["joined(board, pairs)", "join_paper(board, pairs)", "is_joined(board, pairs, thing)",
               "is_join_paper(board, pairs, thing)"],
    "rounds": ["is_round(board, thing)", "round_through(board, told)", "round_bar(board, told)",
               "is_round_bar(board, told, thing)"],
    "through": ["put_between(board, one, other, name)", "put_on(board, one, other, name)",
                "way_through(board, one, other, told)"],
    "senses": ["way_over(board, one, other, first, second)", "round_over(board, one, other, first, second)"],
    "changed": ["with_tie(board, one, other)", "without_tie(board, one, other)", "without(board, place)",
                "drawn_together(board, one, other)", "begins(board, one, other)", "let_ties(board)"],
    "full": ["is_full(board)", "filled(board)", "most_ties(pins, others)"],
    "needed": ["needed_ties(board)", "needed_places(board)", "least_new(board)"],
    "ledown": ["led_down(board)", "is_led_down(board, thing)"],
    "rimcounts": ["count(board, first, last)", "least_lot(board, first, last)", "counts(board)"],
    "codes": ["code(board)", "is_code(rim, thing)", "count_by(rim, code, first, last)", "board_for(rim, code)",
              "count_codes(many)", "all_codes(rim)"],
    "toldback": ["table_fault(table)", "code_of(rim, table)"],
    "alike": ["alike(one, other)", "parting_pairs(one, other)", "are_parting(one, other, thing)",
              "is_better(one, other)", "better_paper(one, other)"],
    "beside": ["common_stretch(one, other)", "beside(one, other)", "ways_on(one, other)", "held_back(one, other)",
               "led_on(one, other, cross)"],
    "within": ["within(board, place, other)"],
    "audits": ["answers_for(notice)", "audit(notice_text, answer_texts)"],
    "refusals": ["refusal(notice, words)", "is_refusal(notice, words, thing)"],
    "whynot": ["why_not(board, one, two)", "is_why_not(board, one, two, thing)"],
    "sessiontexts": ["write_session(session)", "read_session(text)"],
}
CLASSES = {
    "boards": ("Board", "(places, ties, rim)", {"places": "(self)", "ties": "(self)", "rim": "(self)",
                                                "ties_of": "(self, place)", "__eq__": "(self, other)"}),
    "notices": ("Notice", "(board, wishes)", {"board": "(self)", "wishes": "(self)", "__eq__": "(self, other)"}),
    "sessions": ("Session", "()", {"now": "(self)", "watched": "(self)", "do": "(self, deed)",
                                   "is_question": "(self, thing)", "answer": "(self, question)",
                                   "would": "(self, deed)", "count": "(self)", "deeds": "(self)", "undo": "(self)",
                                   "again": "(self)", "at": "(self, number)", "copy": "(self)",
                                   "trial": "(self, work)", "__eq__": "(self, other)"}),
}
LIBRARY = {"heapq", "math", "itertools", "collections"}
BUILTINS = set("""len range enumerate zip min max sum abs sorted reversed int str bool list tuple dict set
    isinstance ord repr any all divmod pow Exception ValueError TypeError KeyError IndexError LookupError
    ZeroDivisionError ArithmeticError OverflowError RuntimeError NotImplementedError""".split())
METHODS = set("""append clear copy count endswith extend find get index insert isalnum isalpha isdigit
    islower isspace isupper items join keys ljust lower lstrip partition pop remove replace reverse rfind
    rjust rpartition rsplit rstrip setdefault split splitlines startswith strip update upper values zfill
    bit_length""".split())
BARRED_NODES = (ast.Global, ast.AsyncFunctionDef, ast.Await, ast.GeneratorExp, ast.Yield, ast.YieldFrom,
                ast.Div, ast.MatMult, ast.TryStar, ast.With, ast.AsyncFor, ast.AsyncWith, ast.Nonlocal)
BARRED_WORDS = re.compile(r"(?<![A-Za-z0-9_])(type|typing|typing_extensions|enum|Enum|IntEnum|StrEnum|Flag|IntFlag"
                          r"|Generic|Protocol|ABC|ABCMeta|namedtuple|NamedTuple|TypedDict|TYPE_CHECKING"
                          r"|abstractmethod)(?![A-Za-z0-9_])|dataclass|overload|contextmanager|_wall")


@functools.cache
def trees():
    return [(path.stem, ast.parse(path.read_text())) for path in FILES]


class InterfaceTest(unittest.TestCase):
    def test_functions(self):
        for file, rows in INTERFACE.items():
            module = importlib.import_module("mustcross." + file)
            for row in rows:
                name, shape = row.split("(")
                function = getattr(module, name)
                self.assertEqual(str(inspect.signature(function)), "(" + shape, row)
                self.assertEqual(function.__module__, "mustcross." + file)

    def test_classes(self):
        for file, (name, shape, methods) in CLASSES.items():
            made = getattr(importlib.import_module("mustcross." + file), name)
            self.assertEqual(str(inspect.signature(made)), shape)
            self.assertEqual(made.__module__, "mustcross." + file)
            for method, own in methods.items():
                self.assertEqual(str(inspect.signature(vars(made)[method])), own)


class FormTest(unittest.TestCase):
    def test_folder(self):
        names = [path.name for path in ROOT.iterdir() if path.name != "__pycache__"]
        self.assertTrue(all(re.fullmatch("[a-z][a-z0-9_]*\\.py|__init__\\.py", name) for name in names))
        self.assertIn("__init__.py", names)
        self.assertLessEqual(len(names), 100)

    def test_sizes_and_signs(self):
        for path in FILES:
            text = path.read_text()
            lines = text.split("\n")
            self.assertLessEqual(len(lines), 399, path)
            for line in lines:
                self.assertLessEqual(len(line), 120, line)
                self.assertTrue(all(" " <= sign <= "~" for sign in line), line)
            self.assertIsNone(BARRED_WORDS.search(text), path)

    def test_functions_are_short(self):
        for file, tree in trees():
            for node in ast.walk(tree):
                if isinstance(node, ast.FunctionDef):
                    self.assertLessEqual(node.end_lineno - node.lineno + 1, 40, (file, node.name))
                    self.assertFalse(node.decorator_list)

    def test_imports(self):
        below = {}
        for file, tree in trees():
            below[file] = []
            for node in ast.walk(tree):
                self.assertNotIsInstance(node, ast.Import)
                if isinstance(node, ast.ImportFrom) and node.module not in LIBRARY:
                    package, other = node.module.split(".")
                    self.assertEqual((package, node.level), ("mustcross", 0))
                    below[file].append(other)
                    own = [part for name, part in trees() if name == other][0]
                    defined = {part.name for part in own.body if hasattr(part, "name")}
                    defined |= {target.id for part in own.body if isinstance(part, ast.Assign)
                                for target in part.targets}
                    self.assertLessEqual({alias.name for alias in node.names}, defined, file)
                    self.assertTrue(all(alias.asname is None for alias in node.names))
        self.assertEqual(self.left_in_rings(below), {})

    def left_in_rings(self, below):
        free = [file for file in below if not below[file]]
        while free:
            below = {file: [other for other in below[file] if other not in free]
                     for file in below if file not in free}
            free = [file for file in below if not below[file]]
        return below

    def test_all_that_is_imported_is_used(self):
        for file, tree in trees():
            told = {alias.name for node in ast.walk(tree) if isinstance(node, ast.ImportFrom)
                    for alias in node.names}
            used = {node.id for node in ast.walk(tree) if isinstance(node, ast.Name)}
            self.assertEqual(told - used, set(), file)

    def bound(self, tree):
        for node in ast.walk(tree):
            if isinstance(node, ast.Name) and not isinstance(node.ctx, ast.Load):
                yield node.id
            elif isinstance(node, ast.arg):
                yield node.arg

    def test_names(self):
        for file, tree in trees():
            taken = {alias.name for node in ast.walk(tree) if isinstance(node, ast.ImportFrom)
                     for alias in node.names}
            taken |= {node.name for node in tree.body if isinstance(node, ast.ClassDef)}
            for name in self.bound(tree):
                self.assertNotIn(name, taken, file)
                self.assertFalse(hasattr(builtins, name), (file, name))

    def test_nodes_and_builtins(self):
        own = {node.name for _, tree in trees() for node in ast.walk(tree) if hasattr(node, "name")}
        for file, tree in trees():
            known = set(self.bound(tree)) | own
            known |= {target for node in tree.body if isinstance(node, ast.ImportFrom)
                      for target in [alias.name for alias in node.names]}
            for node in ast.walk(tree):
                self.assertNotIsInstance(node, BARRED_NODES, file)
                if isinstance(node, ast.Constant):
                    self.assertNotIsInstance(node.value, (float, complex))
                    self.assertFalse(isinstance(node.value, str) and "%" in node.value)
                if isinstance(node, ast.Name):
                    self.assertTrue(node.id in known or node.id in BUILTINS, (file, node.id))
                if isinstance(node, ast.Call) and isinstance(node.func, ast.Attribute):
                    self.assertTrue(node.func.attr in METHODS or node.func.attr in own, node.func.attr)

    def test_methods_are_no_attributes(self):
        for file, tree in trees():
            for made in [node for node in tree.body if isinstance(node, ast.ClassDef)]:
                methods = {node.name for node in made.body if isinstance(node, ast.FunctionDef)}
                kept = {node.attr for node in ast.walk(made) if isinstance(node, ast.Attribute)
                        and isinstance(node.ctx, ast.Store)}
                self.assertEqual(methods & kept, set(), (file, made.name))


if __name__ == "__main__":
    unittest.main()
