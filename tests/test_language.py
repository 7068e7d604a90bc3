"""The package keeps those rules of the language subset that a short script can see."""

import ast
import pathlib
import re
import unittest

from language import own_functions, problems

ROOT = pathlib.Path(__file__).resolve().parent.parent
PACKAGE = ROOT / "roundknown"

# The interface as far as it has landed: file, functions with their parameters, classes.
INTERFACE = {
    "errors": "RoundError BadValue(name) BadProgram(where,why) NotTold(reason) TooLarge(what)"
              " TextError(line,column,words)",
    "rationals": "ratio(n,d) plus(a,b) minus(a,b) times(a,b) over(a,b) power(a,n) less(a,b) is_rational(x)",
    "polynomials": "polynomial(k,rows) add(p,q) multiply(p,q) scale(p,c) value(p,numbers) put_in(m,p,polynomials)"
                   " is_polynomial(k,x)",
    "maps": "is_map(x) is_state(rules,x) one_round(rules,numbers) after_rounds(rules,state,n) compose(first,second)",
    "matrices": "is_matrix(x) characteristic(matrix) rational_zeros(coefficients) eigenvalues(matrix)",
    "layers": "parts(rules) matrix_of(rules,part) spectrum(rules) why_not(rules)",
    "forms": "is_form(variables,x) add_forms(variables,first,second) multiply_forms(variables,first,second)"
             " scale_form(variables,form,coefficient) shift_form(variables,form,rounds) sum_form(variables,form)"
             " next_form(variables,factor,start,form) form_at(variables,form,n) start_form(numbers,form)",
    "futures": "forms_of(rules) future_of(rules,state) is_future(rules,forms)",
    "tables": "is_small(form) table_of(form) sign_at(form,n) stretch_bound(form)",
    "ladders": "ladder_of(form) judge_ladder(form,table,lines)",
    "conditions": "is_condition(k,value) holds(condition,state) comparisons(condition)",
    "rounds": "rounds_of(rules,state,condition) rounds_of_table(table,signs) union(first,second) meet(first,second)"
              " complement(rounds) is_subset(first,second) is_in(rounds,n)",
    "watches": "first_round(rounds) next_round(rounds,n) last_round(rounds) count_rounds(rounds)"
               " take_rounds(rounds,n,count) state_at(rules,state,n)",
    "relations": "monomials(variables,degree) rounds_enough(rules,state,degree) relations(rules,state,degree)"
                 " accepts_relation(rules,state,checked) first_exception(rules,state,checked)",
    "programs": "is_name(value) Program(*,names,body) Program.loops() Program.statements()",
    "walking": "walk(program,state,limit)",
    "runs": "run_of(program,state)",
    "systems": "value_at(expression,numbers) holds_at(row,numbers) solve_system(v,rows) accepts_system(v,rows,answer)",
    "implications": "guard_holds(guard,state) ways(k,guard) implied(k,first,second)"
                    " accepts_implied(k,first,second,answer)",
    "endings": "leads(rules,expression,odd) endless_at_last(rules,guard,state) ends_always(rules,guard)"
               " round_of(rules,guard,state)",
    "papers": "cone_of(rules,guard,pair,raised) accepts_ending(rules,guard,answer)",
    "explaining": "guard_of(k,condition) loop_reports(program) ending_of(program,loop)",
    "workshop": "Workshop(text) Workshop.text() Workshop.program() Workshop.ask(loop) Workshop.run(state)"
                " Workshop.edit(start,end,text) Workshop.undo() Workshop.redo() Workshop.settle() Workshop.journal()"
                " Workshop.worked() Workshop.used() Workshop.copy() replay(text,journal)",
    "scanning": "scan(text)",
    "reading": "next_tokens(text) read_program(text) read_polynomial(names,text) read_condition(names,text)",
    "writing": "program_text(program) polynomial_text(names,polynomial) condition_text(names,condition)",
    "measures": "kept(rules,guard) accepts_kept(rules,guard,answer) falls(rules,guard,measure)"
                " accepts_falls(rules,guard,measure,answer)",
}


def files():
    return [path for path in sorted(PACKAGE.rglob("*")) if "__pycache__" not in path.parts]


def sources():
    return [(path.name, path.read_text(encoding="utf-8")) for path in files()]


def imported(text):
    """The own modules that a file imports from, with the names."""
    found = []
    for node in ast.parse(text).body:
        if isinstance(node, ast.ImportFrom) and node.module.startswith("roundknown."):
            found.append((node.module.split(".", 1)[1], [alias.name for alias in node.names]))
    return found


def parameters(node):
    """The names of the parameters of a function, with a star before those that are passed by keyword."""
    plain = [argument.arg for argument in node.args.args]
    named = [argument.arg for argument in node.args.kwonlyargs]
    return plain + (["*"] + named if named else [])


class PackageTests(unittest.TestCase):
    def test_rules(self):
        found = []
        own = own_functions([text for name, text in sources()])
        for name, text in sources():
            found += problems(name, text, own=own)
        self.assertEqual(found, [])

    def test_files(self):
        self.assertTrue((PACKAGE / "__init__.py").is_file())
        for path in files():
            self.assertTrue(path.is_file() and re.fullmatch(r"[a-z][a-z0-9_]*\.py|__init__\.py", path.name), path)
        self.assertLessEqual(len(files()), 100)

    def test_imports(self):
        texts = {name[:-3]: text for name, text in sources()}
        after = {name: [module for module, _ in imported(text)] for name, text in texts.items()}
        for name, text in texts.items():
            for module, names in imported(text):
                bound = set()
                for node in ast.parse(texts[module]).body:
                    if isinstance(node, (ast.FunctionDef, ast.ClassDef)):
                        bound.add(node.name)
                    elif isinstance(node, ast.Assign):
                        bound |= {target.id for target in node.targets}
                self.assertLessEqual(set(names), bound, (name, module))
        done = set()
        while len(done) < len(after):
            ready = [name for name in after if name not in done and set(after[name]) <= done]
            self.assertTrue(ready, "files import from each other")
            done |= set(ready)

    def test_interface(self):
        for name, words in INTERFACE.items():
            tree = ast.parse((PACKAGE / (name + ".py")).read_text(encoding="utf-8"))
            found = {}
            for node in tree.body:
                if isinstance(node, ast.FunctionDef):
                    found[node.name] = parameters(node)
                elif isinstance(node, ast.ClassDef):
                    found[node.name] = []
                    for part in node.body:
                        if isinstance(part, ast.FunctionDef):
                            called = node.name if part.name == "__init__" else node.name + "." + part.name
                            found[called] = parameters(part)[1:]
            for word in words.split():
                called, _, rest = word.partition("(")
                self.assertIn(called, found)
                self.assertEqual(found[called], [part for part in rest.rstrip(")").split(",") if part], called)


class ScriptTests(unittest.TestCase):
    """The script sees what it should see."""

    BAD = [
        ("import os\n", "L16"), ("from os import path\n", "L2"), ("from math import sin\n", "L2"),
        ("from roundknown.maps import *\n", "L2"), ("from .maps import is_map\n", "L2"),
        ("from math import gcd as g\n", "L2"), ("def f():\n    from math import gcd\n    return gcd(1, 2)\n", "L2"),
        ("A = 1\nA = 2\n", "L15"), ("A = list()\n", "L3"), ("A, B = 1, 2\n", "L3"), ("if True:\n    A = 1\n", "L3"),
        ("def f(x):\n    return x / 2\n", "L7"), ("def f():\n    return 1.5\n", "L7"),
        ("def f(x):\n    return 2 ** x\n", "L27"), ("A = 2 ** 65\n", "L27"), ("A = '5%'\n", "L27"),
        ("A = '\\x41'\n", "L27"), ("def f():\n    global A\n", "L6"), ("async def f():\n    return 1\n", "L6"),
        ("def f(x):\n    return eval(x)\n", "L8"), ("def f(x):\n    return type(x)\n", "L8"),
        ("def f(x):\n    return x.sort()\n", "L25"), ("def f(x):\n    return x.encode()\n", "L25"),
        ("def f(x):\n    for y in set(x):\n        return y\n", "L24"), ("def f(x):\n    return {x}\n", "L24"),
        ("def f(sum):\n    return sum\n", "L15"), ("def f():\n    max = 1\n    return max\n", "L15"),
        ("from math import gcd\n\n\ndef f(gcd):\n    return gcd\n", "L15"),
        ("def f(x):\n    return zip(x, x)\n", "L23"),
        ("def f(x):\n    y = (z for z in x)\n    return y\n", "L7"), ("def f(x, y):\n    return x is y\n", "L20"),
        ("def f(x: int):\n    return x\n", "L21"), ("@f\ndef g():\n    return 1\n", "L4"),
        ("def f(x):\n    raise x\n", "L19"),
        ("def f(x):\n    try:\n        return x()\n    except:\n        return 1\n", "L6"),
        ("def f(x):\n    try:\n        return x()\n    except Exception:\n        return 1\n", "L19"),
        ("def f():\n" + "    pass\n" * 40, "L10"), ("A = 1\n" * 400, "L10"), ("A = '" + "a" * 120 + "'\n", "L10"),
        ("# \u00e9\n", "L14"), ("A = 1\t\n", "L14"),
        ("class A:\n    def __hash__(self):\n        return 1\n", "L5"),
        ("def f(x=[]):\n    return x\n", "L4"), ("def f(x):\n    return x(len)\n", "L22"),
        ("def f(_pe_x):\n    return 1\n", "L17"),
        ("def f(x):\n    return x.__class__\n", "L8"), ("class A(metaclass=f):\n    pass\n", "L5"),
        ("def f():\n    for _ in range(3):\n        return _\n", "L12"), ("def f(x):\n    x + 1\n", "L6"),
        ("from math import gcd\n", "import"),
        ("class A:\n    def __init__(self):\n        self.n = 1\n\n    def n(self):\n        return 1\n", "L18"),
        ("class A:\n    def n(self):\n        return 1\n\n    def n(self):\n        return 2\n", "L18"),
        ("class A:\n    def __init__(self):\n        self.items = []\n", "L26"),
    ]

    def test_bad_code(self):
        for text, rule in self.BAD:
            self.assertIn(rule, [problem[2] for problem in problems("a.py", text)], text)

    def test_good_code(self):
        text = (
            '"""A file."""\n\nfrom math import gcd\n\nfrom roundknown.maps import is_map\n\nA = (2 ** 64, -1)\n\n\n'
            "class Bad(ValueError):\n    def __init__(self, name):\n        self.name = name\n\n\n"
            "def f(x, y=(1, 2)):\n    found = sorted([a for a, b in zip(x, y)], key=lambda a: -a, reverse=True)\n"
            "    if not isinstance(x, (int, str)) and x is not None:\n        raise Bad('x')\n"
            "    for _ in range(gcd(1, 2)):\n        found.append(is_map(x))\n    return tuple(found)\n\n\n"
            "class Box:\n    def __init__(self):\n        self.count = 1\n\n    @property\n    def many(self):\n"
            "        return self.count\n"
        )
        self.assertEqual(problems("a.py", text), [])


if __name__ == "__main__":
    unittest.main()
