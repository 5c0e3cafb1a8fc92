"""The sessions of the interface, line by line: each answer as it is printed there, each error that is raised."""

import unittest
from pathlib import Path

SESSIONS = Path(__file__).resolve().parent / "sessions.txt"


def rows_of(text):
    """(TOLD, ANSWER): what stands behind each `>>> `, and the line below it, None where nothing is printed."""
    lines = text.splitlines()
    rows = []
    for line, below in zip(lines, lines[1:] + [">>> "]):
        if line.startswith(">>> "):
            rows.append((line[4:], None if below.startswith(">>> ") else below))
    return rows


def answer_to(told, names):
    """What a console prints for the line: nothing for a statement."""
    try:
        code = compile(told, "session", "eval")
    except SyntaxError:
        exec(compile(told, "session", "exec"), names)
        return None
    try:
        return repr(eval(code, names))
    except Exception as error:
        kept = ", ".join(f"{name}={value!r}" for name, value in vars(error).items())
        return f"raises {type(error).__name__}({kept})"


class Sessions(unittest.TestCase):
    def test_each_line(self):
        rows = rows_of(SESSIONS.read_text(encoding="utf-8"))
        self.assertGreater(sum(answer is not None for _, answer in rows), 10)
        names = {}
        for told, answer in rows:
            self.assertEqual(answer_to(told, names), answer, told)


if __name__ == "__main__":
    unittest.main()
