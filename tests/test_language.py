"""Rule L5 Iteration, its second point: what extend, update, += and |= get is not what they change."""

import ast
import unittest
from pathlib import Path

PACKAGE = Path(__file__).resolve().parent.parent / "sawwhen"


def changed_and_got(node):
    """Return what the node changes and the list of what it gets, None if it is no such statement or call."""
    if isinstance(node, ast.AugAssign):
        return node.target, [node.value]
    if isinstance(node, ast.Call) and isinstance(node.func, ast.Attribute) and node.func.attr in ("extend", "update"):
        return node.func.value, node.args
    return None


def parts_of(node):
    """Return the list of the node and all parts of it, but for those that list(..) copies."""
    if isinstance(node, ast.Call) and isinstance(node.func, ast.Name) and node.func.id == "list":
        return []
    return [node] + [part for child in ast.iter_child_nodes(node) for part in parts_of(child)]


def faults(text):
    """Return the list of the rows, from 1, in which what is changed is got, whole or by an item."""
    rows = []
    for node in ast.walk(ast.parse(text)):
        found = changed_and_got(node)
        if found:
            changed, got = found
            while isinstance(changed, ast.Subscript):
                changed = changed.value
            if ast.unparse(changed) in [ast.unparse(part) for one in got for part in parts_of(one)]:
                rows.append(node.lineno)
    return sorted(rows)


class ChangedAndGot(unittest.TestCase):
    def test_no_row_of_the_package(self):
        files = sorted(PACKAGE.glob("*.py"))
        self.assertIn(PACKAGE / "web.py", files)
        for path in files:
            self.assertEqual(faults(path.read_text()), [], path.name)

    def test_such_rows_are_found(self):
        for row in ("ways[to] += ways[at]", "ways[a | b] += 2 * ways[a]", "rows += rows", "rows[k] |= rows[0]",
                    "self.rows[k] += self.rows[0]", "rows.extend(rows)", "self.rows.extend(self.rows[1:])",
                    "found.update(found)"):
            self.assertEqual(faults("at = 1\n" + row), [2], row)

    def test_others_are_not(self):
        for row in ("ways[to] = ways[to] + ways[at]", "at += 1", "counts[event] += count", "self.rows[k] += rows[0]",
                    "rows.extend(list(rows))", "rows.append(rows[0])"):
            self.assertEqual(faults(row), [], row)


if __name__ == "__main__":
    unittest.main()
