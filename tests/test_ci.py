"""What .ci/run promises: it runs all tests, here and in shared, and fails if one fails."""

import os
import pathlib
import shutil
import subprocess
import tempfile
import unittest

SCRIPT = pathlib.Path(__file__).resolve().parent.parent / ".ci" / "run"

TEST = """import unittest
from heapwright import NAME
class T(unittest.TestCase):
    def test_it(self):
        self.assertEqual(NAME, "{}")
"""
RIGHT = TEST.format("small")
WRONG = TEST.format("other")


class RunTest(unittest.TestCase):
    def setUp(self):
        folder = tempfile.TemporaryDirectory()
        self.addCleanup(folder.cleanup)
        self.top = pathlib.Path(folder.name)
        self.write("main/heapwright/__init__.py", "NAME = 'small'\n")
        self.write("main/tests/__init__.py", "")
        self.write("main/tests/test_own.py", RIGHT)
        (self.top / "main" / ".ci").mkdir()
        shutil.copy(SCRIPT, self.top / "main" / ".ci" / "run")

    def write(self, name, text):
        path = self.top / name
        path.parent.mkdir(parents=True, exist_ok=True)
        path.write_text(text)

    def passes(self):
        """Whether the script ends well, run from a folder that is not the project's."""
        plain = {name: os.environ[name] for name in os.environ if name != "PYTHONPATH"}
        run = subprocess.run(
            ["bash", str(self.top / "main" / ".ci" / "run")], cwd=self.top, env=plain,
            stdin=subprocess.DEVNULL, stdout=subprocess.PIPE, stderr=subprocess.STDOUT)
        return run.returncode == 0

    def test_passes_without_shared_tests(self):
        self.assertTrue(self.passes())
        self.write("shared/tests/README.md", "No tests yet.")
        self.write("shared/tests/other.py", WRONG)
        self.assertTrue(self.passes())

    def test_passes_where_all_pass_and_leaves_nothing_behind(self):
        self.write("shared/tests/test_one.py", RIGHT)
        self.write("shared/tests/test_own.py", RIGHT)
        before = sorted(self.top.rglob("*"))
        self.assertTrue(self.passes())
        self.assertEqual(sorted(self.top.rglob("*")), before)

    def test_fails_where_an_own_test_fails(self):
        self.write("main/tests/test_wrong.py", WRONG)
        self.write("shared/tests/test_one.py", RIGHT)
        self.assertFalse(self.passes())

    def test_fails_where_a_shared_test_fails(self):
        for name in ("test_first.py", "test_own.py", "test_z.py", "below/test_one.py"):
            with self.subTest(name):
                self.write("shared/tests/test_one.py", RIGHT)
                self.write("shared/tests/" + name, WRONG)
                self.assertFalse(self.passes())
                (self.top / "shared" / "tests" / name).unlink()

    def test_fails_where_a_shared_file_cannot_be_loaded(self):
        self.write("shared/tests/test_one.py", "from heapwright.missing import thing\n")
        self.assertFalse(self.passes())


if __name__ == "__main__":
    unittest.main()
