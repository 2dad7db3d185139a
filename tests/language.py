"""What a script can see of LANGUAGE.md: rules L10, L12, L14, L17 and L27, and a part of L2, L6, L7, L8, L15 and L25.

faults(source) is a list of (rule, row, why); folder_faults(folder) is one of (file, rule, row, why).
"""

import ast
import builtins
import io
import os
import re
import sys
import tokenize
import warnings

MOST_FUNCTION_LINES = 40
MOST_FILE_LINES = 399
MOST_LINE_SIGNS = 120
MOST_FILES = 100
MOST_STRING_SIGNS = 2000000
MOST_DIGITS = 900

PLAIN_NAME = re.compile(r"_?[A-Za-z][A-Za-z0-9_]*\Z|_\Z")
PLAIN_FILE = re.compile(r"[a-z_][a-z0-9_]*\.py\Z")
DOUBLE = {
    "__init__", "__eq__", "__repr__", "__str__", "__len__", "__enter__", "__exit__", "__call__", "__iter__", "__lt__",
    "__le__", "__gt__", "__ge__", "__ne__", "__neg__", "__pos__", "__invert__", "__abs__", "__bool__",
    "__contains__", "__getitem__", "__setitem__", "__slots__", "__class__", "__name__", "__all__", "__version__",
    "__future__",
}
for _word in ("add", "sub", "mul", "floordiv", "mod", "pow", "and", "or", "xor", "lshift", "rshift"):
    DOUBLE.update({"__" + _word + "__", "__i" + _word + "__"})
    if _word != "pow":
        DOUBLE.add("__r" + _word + "__")

BARRED_FRONTS = (
    "_wall", "_pe_", "_dcw_", "_enum_", "_cm_", "_twin_re_", "_lay_", "_law_", "_stub_", "_sre", "_WallAttr",
)
BARRED_NAMES = re.compile(r"(_cold|_tuplegetter|_outside|_record|_written_out|_member_names)[0-9_]*\Z")
BARRED_WORDS = re.compile(r"(?<![A-Za-z0-9_])(_wall|_WallAttr)(?![A-Za-z0-9_])")

FRAMES = (
    "f_back f_builtins f_code f_globals f_lasti f_lineno f_locals f_trace f_trace_lines f_trace_opcodes f_generator "
    "tb_frame tb_lasti tb_lineno tb_next co_argcount co_cellvars co_code co_consts co_exceptiontable co_filename "
    "co_firstlineno co_flags co_freevars co_kwonlyargcount co_lines co_linetable co_lnotab co_name co_names "
    "co_nlocals co_positions co_posonlyargcount co_qualname co_stacksize co_varnames gi_code gi_frame gi_running "
    "gi_suspended gi_yieldfrom cr_await cr_code cr_frame cr_origin cr_running cr_suspended ag_await ag_code ag_frame "
    "ag_running ag_suspended"
).split()
FRAME_WORD = re.compile(r"(?<![A-Za-z0-9_])(" + "|".join(FRAMES) + r")(?![A-Za-z0-9_])")
NOWHERE = set(
    "register mro elements open input law version_info with_traceback add_note".split() + FRAMES
)
NO_VARIABLES = set(
    "attrgetter breakpoint builtins compile copyright credits delattr dir eval exec exit gc getattr globals hasattr "
    "help id importlib license locals methodcaller os quit setattr super type vars".split()
)
CALLED_ONLY = {"getattr", "hasattr", "setattr", "super"}
NO_WORDS = re.compile(
    r"(?<![A-Za-z0-9_])(typing|typing_extensions|enum|Enum|IntEnum|StrEnum|Flag|IntFlag|Generic|Protocol|ABC|ABCMeta"
    r"|namedtuple|NamedTuple|TypedDict|TYPE_CHECKING|abstractmethod)(?![A-Za-z0-9_])"
)
NO_PARTS = re.compile("dataclass|overload|contextmanager")
TYPE_WORD = re.compile(r"(?<![A-Za-z0-9_])type(?![A-Za-z0-9_])")

BUILTINS = set(
    "len range enumerate zip min max sum abs sorted reversed int str bool bytes list tuple dict set frozenset "
    "isinstance ord repr any all divmod pow getattr hasattr setattr iter next map super property staticmethod "
    "classmethod Exception ValueError TypeError KeyError IndexError LookupError ZeroDivisionError ArithmeticError "
    "OverflowError RuntimeError NotImplementedError AttributeError StopIteration NotImplemented print object "
    "float __name__".split()
)
LIBRARY = {
    "heapq": "heappush heappop heapify heapreplace heappushpop".split(),
    "math": "gcd lcm isqrt comb perm factorial".split(),
    "itertools": (
        "product combinations permutations chain accumulate pairwise islice zip_longest".split()
    ),
    "collections": ["defaultdict"],
    "__future__": ["annotations"],
}
METHODS = set(
    "append clear copy count endswith extend find get index insert isalnum isalpha isdigit islower isspace isupper items "
    "join keys ljust lower lstrip partition pop remove replace reverse rfind rjust rpartition rsplit rstrip setdefault "
    "split splitlines startswith strip update upper values zfill bit_length title capitalize swapcase casefold center "
    "expandtabs removeprefix removesuffix rindex isascii isdecimal isnumeric istitle isidentifier isprintable translate "
    "add discard".split()
)
TAKES_LISTS = {"any", "all", "min", "max", "sum", "sorted"}
BARRED_NODES = (
    ast.Global, ast.AsyncFunctionDef, ast.AsyncFor, ast.AsyncWith, ast.Await, ast.Div, ast.MatMult,
)
BARRED_FILES = {"test", "tests", "testing", "site", "conftest", "sitecustomize", "usercustomize"}


def names_of(tree):
    """Each name in the tree: (name, row, kind), the kind being one of variable, member and part."""
    found = []
    for node in ast.walk(tree):
        row = getattr(node, "lineno", 1)
        if isinstance(node, ast.Name):
            found.append((node.id, row, "variable" if not isinstance(node.ctx, ast.Load) else "read"))
        elif isinstance(node, ast.arg):
            found.append((node.arg, row, "variable"))
        elif isinstance(node, ast.Attribute):
            found.append((node.attr, row, "member"))
        elif isinstance(node, ast.keyword) and node.arg:
            found.append((node.arg, row, "part"))
        elif isinstance(node, ast.alias):
            for part in node.name.split("."):
                found.append((part, row, "variable"))
            if node.asname:
                found.append((node.asname, row, "variable"))
        elif isinstance(node, ast.ImportFrom):
            for part in (node.module or "").split("."):
                found.append((part, row, "part"))
        elif isinstance(node, (ast.FunctionDef, ast.ClassDef)):
            found.append((node.name, row, "variable"))
        elif isinstance(node, (ast.ExceptHandler, ast.MatchAs, ast.MatchStar)) and node.name:
            found.append((node.name, row, "variable"))
        elif isinstance(node, ast.Nonlocal):
            for word in node.names:
                found.append((word, row, "variable"))
    return found


def methods_of(tree):
    """The functions that stand right in a class."""
    return [
        part for node in ast.walk(tree) if isinstance(node, ast.ClassDef)
        for part in node.body if isinstance(part, ast.FunctionDef)
    ]


def docstrings_of(tree):
    """Where docstrings begin: the set of (row, column)."""
    found = set()
    for node in ast.walk(tree):
        if isinstance(node, (ast.Module, ast.FunctionDef, ast.ClassDef)) and node.body:
            first = node.body[0]
            if isinstance(first, ast.Expr) and isinstance(first.value, ast.Constant):
                if isinstance(first.value.value, str):
                    found.add((first.lineno, first.col_offset))
    return found


def tokens_of(source):
    return list(tokenize.generate_tokens(io.StringIO(source).readline))


def is_string_token(token):
    return tokenize.tok_name[token.type] in ("STRING", "FSTRING_START", "FSTRING_MIDDLE", "FSTRING_END")


def size_faults(source, tree):
    rows = source.split("\n")
    if rows and rows[-1] == "":
        rows.pop()
    found = []
    if len(rows) > MOST_FILE_LINES:
        found.append(("L10", len(rows), "the file has too many lines"))
    for k, row in enumerate(rows):
        if len(row) > MOST_LINE_SIGNS:
            found.append(("L10", k + 1, "the line is too long"))
        if "\t" in row:
            found.append(("L10", k + 1, "there is a tab"))
    for node in ast.walk(tree):
        if isinstance(node, ast.FunctionDef):
            first = min([node.lineno] + [one.lineno for one in node.decorator_list])
            if node.end_lineno - first + 1 > MOST_FUNCTION_LINES:
                found.append(("L10", node.lineno, "the function has too many lines"))
    return found


def sign_faults(source):
    found = []
    for k, row in enumerate(source.split("\n")):
        for sign in row:
            if not " " <= sign <= "~" and sign != "\t":
                found.append(("L14", k + 1, "there is a sign besides the blank to ~"))
    return found


def name_faults(source, tree):
    found = []
    for k, row in enumerate(source.split("\n")):
        if BARRED_WORDS.search(row):
            found.append(("L12", k + 1, "there is a barred word"))
    methods = {method.name for method in methods_of(tree)}
    for name, row, kind in names_of(tree):
        if name.startswith("__"):
            if name not in DOUBLE:
                found.append(("L12", row, "a name begins with two underscores: " + name))
        elif name and not PLAIN_NAME.match(name):
            found.append(("L12", row, "a name is not plain: " + name))
        if name == "_" and kind not in ("variable",):
            found.append(("L12", row, "_ is read"))
        fronts = [front for front in BARRED_FRONTS if name.startswith(front)]
        if fronts and not (fronts == ["_wall"] and (kind == "member" or name in methods)):
            found.append(("L12", row, "a name begins with " + fronts[0]))
        if BARRED_NAMES.match(name):
            found.append(("L12", row, "a name is barred: " + name))
    for node in ast.walk(tree):
        if isinstance(node, ast.ClassDef) and node.name.startswith("_"):
            found.append(("L12", node.lineno, "a class's name begins with an underscore"))
    return found


def unused_name_faults(tree, source):
    found = []
    for name, row, kind in names_of(tree):
        if name in NOWHERE:
            found.append(("L17", row, "a name is barred: " + name))
        elif name in NO_VARIABLES and kind == "variable":
            found.append(("L17", row, "a name is barred: " + name))
        elif name in NO_VARIABLES - CALLED_ONLY and kind == "read":
            found.append(("L17", row, "a name is barred: " + name))
    for method in methods_of(tree):
        if method.name in NO_VARIABLES:
            found.append(("L17", method.lineno, "a method's name is barred: " + method.name))
    docstrings = docstrings_of(tree)
    for token in tokens_of(source):
        if token.type == tokenize.COMMENT or is_string_token(token) and token.start in docstrings:
            continue
        if NO_WORDS.search(token.string) or NO_PARTS.search(token.string):
            found.append(("L17", token.start[0], "a word is barred: " + token.string[:40]))
        elif TYPE_WORD.search(token.string) and not is_string_token(token):
            found.append(("L17", token.start[0], "a word is barred: type"))
    return found


def string_faults(tree, source):
    found = []
    docstrings = docstrings_of(tree)
    for node in ast.walk(tree):
        if isinstance(node, ast.Constant) and isinstance(node.value, (str, bytes)):
            text = node.value if isinstance(node.value, str) else node.value.decode("latin-1")
            at_docstring = (node.lineno, node.col_offset) in docstrings
            for why in text_faults(text, at_docstring):
                found.append(("L27", node.lineno, why))
    for token in tokens_of(source):
        if is_string_token(token):
            for why in escape_faults(token.string):
                found.append(("L27", token.start[0], why))
    return found


def text_faults(text, at_docstring):
    found = []
    if "%" in text:
        found.append("a string has a percent sign")
    if at_docstring:
        return found
    if text.endswith("._") or text.endswith(".__"):
        found.append("a string ends in an underscore behind a dot")
    if text in FRAMES:
        found.append("a string is the name of a part of a frame")
    if len(text) >= 4 and text.startswith("__") and text.endswith("__") and text != "__main__":
        found.append("a string begins and ends with two underscores")
    if "{" in text or "}" in text or "." in text and " " not in text:
        if FRAME_WORD.search(text) or re.search(r"(?<![A-Za-z0-9_])__[A-Za-z0-9_]", text):
            found.append("a string has a barred word behind a dot or in a brace")
    return found


def escape_faults(text):
    head = text[:max(0, min([text.find(quote) for quote in "'\"" if quote in text] or [0]))]
    allowed = "nt\\'\""
    if "b" in head.lower():
        allowed += "x"
    found = []
    k = text.find("\\")
    while k >= 0:
        if text[k + 1:k + 2] not in allowed or text[k + 1:k + 2] == "":
            found.append("a string has another escape")
        k = text.find("\\", k + 2)
    return found


def number_faults(tree):
    found = []
    for node in ast.walk(tree):
        if isinstance(node, (ast.BinOp, ast.AugAssign)) and isinstance(node.op, ast.Pow):
            power = node.right if isinstance(node, ast.BinOp) else node.value
            if not isinstance(power, ast.Constant) or not isinstance(power.value, int) or not 0 <= power.value <= 64:
                found.append(("L27", node.lineno, "an exponent is no literal from 0 to 64"))
        if isinstance(node, ast.Name) and node.id == "chr":
            found.append(("L27", node.lineno, "there is chr"))
        if isinstance(node, ast.Constant) and isinstance(node.value, int) and abs(node.value) >= 10 ** MOST_DIGITS:
            found.append(("L27", node.lineno, "a number has too many digits"))
        if isinstance(node, ast.Constant) and isinstance(node.value, (float, complex)):
            found.append(("L7", node.lineno, "there is a number that is no integer"))
        if isinstance(node, BARRED_NODES):
            found.append(("L6", getattr(node, "lineno", 1), "there is " + node.__class__.__name__))
    return found


def import_faults(tree):
    found = []
    for node in ast.walk(tree):
        if isinstance(node, ast.Import):
            found.append(("L2", node.lineno, "there is an import that isn't from a module"))
        if isinstance(node, ast.ImportFrom):
            allowed = LIBRARY.get(node.module, [])
            for one in node.names:
                own = node.level == 0 and (node.module or "").startswith("homeshold.")
                if one.name == "*" or not own and (one.name not in allowed or one.asname or node.level):
                    found.append(("L2", node.lineno, "there is an import of " + str(node.module)))
    return found


def builtin_faults(tree):
    found = []
    for name, row, kind in names_of(tree):
        if kind == "read" and hasattr(builtins, name) and name not in BUILTINS:
            found.append(("L8", row, "there is a builtin besides the allowed ones: " + name))
    methods = [id(method) for method in methods_of(tree)]
    for node in ast.walk(tree):
        named = isinstance(node, (ast.FunctionDef, ast.ClassDef)) and id(node) not in methods
        name = node.name if named else node.arg if isinstance(node, ast.arg) else ""
        if isinstance(node, ast.Name) and isinstance(node.ctx, ast.Store):
            name = node.id
        if name and hasattr(builtins, name) and name != "_":
            found.append(("L15", node.lineno, "a name is that of a builtin: " + name))
    return found


def call_faults(tree, own):
    """The package has a class with __eq__, so any, all and the like take lists, and nothing is sorted in its place."""
    found = []
    for node in ast.walk(tree):
        if not isinstance(node, ast.Call):
            continue
        if isinstance(node.func, ast.Attribute) and node.func.attr not in METHODS | own:
            found.append(("L25", node.lineno, "there is a method besides the allowed ones: " + node.func.attr))
        if isinstance(node.func, ast.Name) and node.func.id in TAKES_LISTS:
            if [one for one in node.args if isinstance(one, ast.GeneratorExp)]:
                found.append(("L7", node.lineno, "a generator expression stands where a list has to"))
    return found


def shadow_faults(tree):
    """Local names that are those of a class or an import of the file."""
    taken = {node.name for node in tree.body if isinstance(node, ast.ClassDef)}
    for node in tree.body:
        if isinstance(node, ast.ImportFrom):
            taken.update([one.name for one in node.names])
    found = []
    for function in ast.walk(tree):
        if isinstance(function, ast.FunctionDef):
            for name, row, kind in names_of(function):
                if kind == "variable" and name in taken:
                    found.append(("L15", row, "a name is that of a class or an import: " + name))
    return found


def warning_faults(source):
    with warnings.catch_warnings():
        warnings.simplefilter("error")
        try:
            compile(source, "file", "exec")
        except (SyntaxError, Warning) as error:
            return [("L27", getattr(error, "lineno", None) or 1, "Python warns: " + str(error))]
    return []


def faults(source, methods=()):
    """What is wrong in the text of one file, where these are methods of other files of the package."""
    found = warning_faults(source) + sign_faults(source)
    with warnings.catch_warnings():
        warnings.simplefilter("ignore")
        try:
            tree = ast.parse(source)
        except SyntaxError as error:
            return found + [("L1", error.lineno or 1, "this is no Python")]
    found += size_faults(source, tree) + name_faults(source, tree) + unused_name_faults(tree, source)
    found += string_faults(tree, source) + number_faults(tree) + import_faults(tree) + builtin_faults(tree)
    own = {method.name for method in methods_of(tree)} | set(methods)
    return found + call_faults(tree, own) + shadow_faults(tree)


def own_methods(folder):
    """The names of all methods of a package."""
    found = set()
    for at, _, files in os.walk(folder):
        for name in files:
            if name.endswith(".py"):
                with open(os.path.join(at, name), encoding="utf-8") as file:
                    try:
                        found.update([method.name for method in methods_of(ast.parse(file.read()))])
                    except SyntaxError:
                        continue
    return found


def file_name_faults(folder, files):
    found = []
    if "__init__.py" not in files:
        found.append(("L14", 0, "the folder has no __init__.py"))
    for name in files:
        bare = name[:-3]
        if not PLAIN_FILE.match(name):
            found.append(("L14", 0, "the file's name is not plain: " + name))
        elif name not in ("__init__.py", "__main__.py"):
            barred = bare in BARRED_FILES or bare.startswith(("law_", "test_", "_")) or hasattr(builtins, bare)
            if barred or bare in NOWHERE | NO_VARIABLES or bare in ("heapq", "math", "itertools"):
                found.append(("L14", 0, "the file's name is barred: " + name))
        if os.path.isdir(os.path.join(folder, bare)):
            found.append(("L14", 0, "a folder has the name of the file: " + name))
    return found


def folder_faults(folder):
    """What is wrong in the folder of the package."""
    found = []
    if os.path.basename(folder) in sys.stdlib_module_names:
        found.append((folder, "L14", 0, "the package has the name of a module of Python"))
    many = 0
    signs = 0
    methods = own_methods(folder)
    for at, folders, files in os.walk(folder):
        folders[:] = [name for name in folders if name != "__pycache__"]
        found += [(at,) + fault for fault in file_name_faults(at, files)]
        for name in files:
            with open(os.path.join(at, name), encoding="utf-8", newline="") as file:
                source = file.read()
            many += 1
            signs += len(source)
            found += [(os.path.join(at, name),) + fault for fault in faults(source, methods)]
    # A file has more signs than its strings, so this errs on the safe side.
    if many > MOST_FILES or signs > MOST_STRING_SIGNS:
        found.append((folder, "L14", 0, "the package is too large"))
    return found
