"""Every example of the interface, run as it stands there."""

import importlib
import unittest

from examples import EXAMPLES


def cases_of(text):
    """Pairs of the code and the rows that it is told to print."""
    cases = []
    for row in text.splitlines():
        if row.startswith(">>> "):
            cases.append((row[4:], []))
        else:
            cases[-1][1].append(row)
    return cases


def answer_to(code, names):
    """What the interpreter prints for the code, an error being told as in the document."""
    try:
        made = compile(code, "example", "eval")
    except SyntaxError:
        exec(code, names)
        return []
    try:
        value = eval(made, names)
        return [] if value is None else [repr(value)]
    except ValueError as error:
        return ["raises " + repr(error)]


class Examples(unittest.TestCase):
    def test_each_example_answers_as_it_is_told(self):
        names = {}
        count = 0
        for module in ("errors", *[name for name, _ in EXAMPLES]):
            found = importlib.import_module("nevercaught." + module)
            names.update({name: value for name, value in vars(found).items() if not name.startswith("_")})
        for module, text in EXAMPLES:
            for code, told in cases_of(text):
                with self.subTest(module=module, code=code):
                    self.assertEqual(answer_to(code, names), told)
                count += 1
        self.assertEqual(count, 149)


if __name__ == "__main__":
    unittest.main()
