"""The package keeps to LANGUAGE.md, as far as a script can tell."""

import ast
import unittest
import warnings

import language


class LanguageTest(unittest.TestCase):
    def setUp(self):
        self.sources = language.sources()

    def test_each_rule_of_one_file(self):
        for rule in language.ONE_BY_ONE:
            with self.subTest(rule.__name__):
                self.assertEqual([], [told for source in self.sources for told in rule(source)])

    def test_l1_the_folder_holds_python_files_alone(self):
        others = [
            path.name for path in language.PACKAGE.iterdir()
            if path.suffix != ".py" and path.name != "__pycache__"
        ]
        self.assertEqual([], others)

    def test_l14_number_of_files(self):
        self.assertLessEqual(len(self.sources), 100)

    def test_l16_no_circle_of_imports(self):
        imports = {
            source.module: [node.module for node in source.nodes(ast.ImportFrom)] for source in self.sources
        }
        done = set()
        while True:
            ready = [name for name, above in imports.items() if name not in done and done.issuperset(above)]
            if not ready:
                break
            done.update(ready)
        self.assertEqual(set(imports), done)

    def test_l18_attributes_and_methods(self):
        stored, methods, properties = set(), {}, set()
        for source in self.sources:
            for node in source.nodes(ast.Attribute):
                if isinstance(node.ctx, ast.Store):
                    stored.add(node.attr)
            for kind, node in language.method_names(source):
                methods.setdefault(node.name, []).append(kind.name)
                if any(isinstance(one, ast.Name) and one.id == "property" for one in node.decorator_list):
                    properties.add(node.name)
        self.assertEqual(language.PROPERTIES, properties)
        values = {
            target.id for source in self.sources for kind in source.classes() for node in kind.body
            if isinstance(node, ast.Assign) for target in node.targets
        }
        self.assertEqual({"parting"}, stored & set(methods), "the document's Tape.parting and Unalike.parting alone")
        self.assertEqual(set(), stored & values)
        for name in properties:
            kinds = {"program": ["Control", "Control", "Desk"]}.get(name, methods[name][:1])
            self.assertEqual(kinds, methods[name], name)
        self.assertFalse("program" in stored, "no class assigns a property that another one lets be set")
        known = stored | values | set(methods) | language.METHODS | {"__init__", "setter"}
        for source in self.sources:
            for node in source.nodes(ast.Attribute):
                self.assertIn(node.attr, known, f"{source.name}:{node.lineno}")

    def test_l23_generators(self):
        names, yielding = [], set()
        for source in self.sources:
            for node in source.functions():
                names.append(node.name)
                if any(isinstance(one, (ast.Yield, ast.YieldFrom)) for one in ast.walk(node)):
                    yielding.add(node.name)
        for name in yielding:
            self.assertEqual(1, names.count(name), name)
        for source in self.sources:
            iterated = set()
            for node in ast.walk(source.tree):
                if isinstance(node, (ast.For, ast.comprehension)):
                    iterated.add(id(node.iter))
                elif isinstance(node, ast.YieldFrom):
                    iterated.add(id(node.value))
                elif any(language.is_call(node, name) for name in ("list", "tuple")):
                    iterated.update(id(arg) for arg in node.args)
            for node in source.nodes(ast.Call):
                called = node.func.attr if isinstance(node.func, ast.Attribute) else getattr(node.func, "id", "")
                if called in yielding:
                    self.assertIn(id(node), iterated, f"{source.name}:{node.lineno}")

    def test_l25_methods_of_builtin_values(self):
        own = {node.name for source in self.sources for _, node in language.method_names(source)}
        self.assertEqual([], [told for source in self.sources for told in language.l25_methods(source, own)])

    def test_l27_no_warnings(self):
        for source in self.sources:
            with warnings.catch_warnings():
                warnings.simplefilter("error")
                compile(source.text, source.name, "exec")

    def test_the_rules_see_what_breaks_them(self):
        broken = {
            "l10_size": "def long():\n" + "    pass\n" * 40,
            "l14_characters": "NAME = '\u00e9'\n",
            "l15_bindings": "def told(sum):\n    return sum\n",
            "l17_names": "def told(register):\n    return register\n",
            "l7_expressions": "def told(xs):\n    return any(x for x in xs)\n",
            "l20_is": "def told(x, y):\n    return x is y\n",
            "l27_numbers_and_strings": "def told(x):\n    return x ** x\n",
            "l22_calls": "def told(xs):\n    return sorted(xs)\n",
            "l23_iterated_at_once": "def told(xs):\n    return zip(xs, xs)\n",
        }
        for name, text in broken.items():
            source = self.sources[0]
            source.text, source.tree, source.lines = text, ast.parse(text), text.splitlines()
            self.assertNotEqual([], list(getattr(language, name)(source)), name)


if __name__ == "__main__":
    unittest.main()
