"""The examples of the document, one file for each point that has landed."""

import importlib
import pathlib
import pkgutil
import unittest

import lateplans

FOLDER = pathlib.Path(__file__).parent / "examples"
POINTS = (
    "point_04", "point_05", "point_06", "point_07", "point_08", "point_09", "point_10", "point_11", "point_12",
    "point_13", "point_14", "point_15", "point_16", "point_17", "point_18", "point_19",
    "point_20", "point_21",
)


def all_names():
    """What the modules of the package define."""
    names = {}
    for found in pkgutil.iter_modules(lateplans.__path__):
        module = importlib.import_module("lateplans." + found.name)
        for name, value in vars(module).items():
            if not name.startswith("_") and getattr(value, "__module__", None) == module.__name__:
                names[name] = value
    return names


def told(line, names):
    """What Python would show behind this line, errors as the document writes them."""
    try:
        code = compile(line, "example", "eval")
    except SyntaxError:
        exec(compile(line, "example", "exec"), names)
        return ""
    try:
        result = eval(code, names)
    except names["PlanError"] as error:
        values = ", ".join(f"{name}={value!r}" for name, value in vars(error).items())
        return f"raises {type(error).__name__}({values})"
    return "" if result is None else repr(result)


def cases(text):
    """The pairs of a line and what is shown behind it."""
    found = []
    for line in text.splitlines():
        if line.startswith(">>> "):
            found.append((line[4:], []))
        elif line:
            found[-1][1].append(line)
    return [(line, "\n".join(shown)) for line, shown in found]


class Examples(unittest.TestCase):
    def test_each_example(self):
        for point in POINTS:
            names = all_names()
            found = cases((FOLDER / (point + ".txt")).read_text())
            self.assertGreater(len(found), 4, point)
            for line, shown in found:
                with self.subTest(point=point, line=line):
                    self.assertEqual(told(line, names), shown)


if __name__ == "__main__":
    unittest.main()
