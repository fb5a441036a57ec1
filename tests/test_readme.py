"""Whether the examples of the README print what they say."""

import contextlib
import io
import pathlib
import re

from helpers import KeptCase

README = (pathlib.Path(__file__).resolve().parent.parent / "README.md").read_text()
BLOCKS = re.findall(r"```python\n(.*?)```", README, re.S)


class Readme(KeptCase):
    def test_examples(self):
        said = io.StringIO()
        with contextlib.redirect_stdout(said):
            exec("\n".join(BLOCKS), {})
        printed = said.getvalue()
        told = [line.split("  # ")[1].strip() for line in "".join(BLOCKS).splitlines() if "print(" in line and "  # " in line]
        report = re.search(r"The report is\n\n(.*?)\n\n", README, re.S).group(1)
        report = "".join(line[4:] + "\n" for line in report.splitlines())
        self.assertIn(report, printed)
        lines = [line for line in printed.replace(report, "").splitlines() if line]
        self.assertEqual(len(lines), len(told))
        for line, comment in zip(lines, told):
            # Behind a colon a comment says why.
            self.assertTrue(comment == line or comment.startswith(line + ": "), (line, comment))
