"""The interface: names, arguments, nothing printed, nothing kept, nothing imported from outside."""

import inspect
import pathlib
import subprocess
import sys
import unittest

from helper import call, lines, made, judged
from judgebench import benches

ROOT = pathlib.Path(__file__).resolve().parent.parent
CALLS = {
    "make": ["judges", "t", "weights"],
    "judge": ["t", "b"],
    "ground": ["t", "b"],
    "count": ["literal", "t", "b"],
    "held": ["how", "t", "b"],
    "clash": ["t", "b"],
    "common": ["judges", "t", "b"],
    "part": ["x", "y", "t", "b"],
    "few": ["literal", "t", "b"],
}
# Atoms a, b, p; two judges, of whom the first has a outweigh b.
PAIR = lines("rule a: => p", "rule b: => ~p")
TABLE = [2, 0, 0, 0]
# Each call with values that it answers, and the answer.
SAMPLES = [
    ("make", {"judges": 2, "t": PAIR, "weights": [0, 0, 1]}, [0, 2, 0, 0, 0]),
    ("make", {"judges": 2, "t": PAIR, "weights": [0, 0, 0]}, [-2, 2, 0]),
    ("judge", {"t": PAIR, "b": TABLE}, [0]),
    ("judge", {"t": PAIR, "b": [1, 0]}, [-2, 2, 0, 0]),
    ("ground", {"t": PAIR, "b": TABLE}, [0, 1, 0]),
    ("ground", {"t": PAIR, "b": [1, 0]}, [-2]),
    ("count", {"literal": 4, "t": PAIR, "b": TABLE}, [0, 1, 0, 1]),
    ("count", {"literal": 6, "t": PAIR, "b": TABLE}, [-1]),
    ("count", {"literal": 4, "t": PAIR, "b": []}, [-2]),
    ("held", {"how": 0, "t": PAIR, "b": TABLE}, [0, 1, 0, 4]),
    ("held", {"how": 1, "t": PAIR, "b": TABLE}, [0, 0]),
    ("held", {"how": 3, "t": PAIR, "b": TABLE}, [-1]),
    ("clash", {"t": PAIR, "b": TABLE}, [0, 0]),
    ("clash", {"t": PAIR, "b": []}, [-2]),
    ("common", {"judges": 1, "t": PAIR, "b": TABLE}, [0, 2, 0, 1]),
    ("common", {"judges": 3, "t": PAIR, "b": TABLE}, [0, 0, 0, 0]),
    ("common", {"judges": 4, "t": PAIR, "b": TABLE}, [-1]),
    ("part", {"x": 0, "y": 1, "t": PAIR, "b": TABLE}, [0, 0]),
    ("part", {"x": 1, "y": 1, "t": PAIR, "b": TABLE}, [-3]),
    ("part", {"x": 0, "y": 2, "t": PAIR, "b": TABLE}, [-1]),
    ("few", {"literal": 0, "t": PAIR, "b": TABLE}, [0, 1]),
    ("few", {"literal": 5, "t": PAIR, "b": TABLE}, [-3]),
    ("few", {"literal": 6, "t": PAIR, "b": TABLE}, [-1]),
]


class Interface(unittest.TestCase):
    def test_names_and_arguments(self):
        for name, arguments in CALLS.items():
            parameters = inspect.signature(getattr(benches, name)).parameters
            self.assertEqual(list(parameters), arguments)
            self.assertTrue(all(one.default is one.empty for one in parameters.values()))

    def test_every_call_has_samples(self):
        self.assertEqual({name for name, values, answer in SAMPLES}, set(CALLS))

    def test_by_keyword(self):
        for name, values, answer in SAMPLES:
            self.assertEqual(getattr(benches, name)(**values), answer, name)

    def test_by_place(self):
        for name, values, answer in SAMPLES:
            self.assertEqual(call(getattr(benches, name), *[values[one] for one in CALLS[name]]), answer, name)

    def test_nothing_is_printed_or_imported(self):
        program = (
            "import sys\n"
            "before = set(sys.modules)\n"
            "from judgebench import benches\n"
            "for name, values, answer in %r:\n"
            "    getattr(benches, name)(**values)\n"
            "more = [name for name in set(sys.modules) - before if name.split('.')[0] != 'judgebench']\n"
            "sys.exit(1 if more else 0)\n"
        )
        run = subprocess.run([sys.executable, "-c", program % (SAMPLES,)], cwd=ROOT, capture_output=True)
        self.assertEqual((run.returncode, run.stdout, run.stderr), (0, b"", b""))

    def test_nothing_is_kept(self):
        good, wrong = lines("rule a: => p", "rule b: => q", "weigh a > b"), lines("rule a: => p", "weigh a > a")
        first = [made(2, good, (0, 1, 0)), judged(good, 0, 1), made(1, wrong), judged(wrong, 0)]
        self.assertEqual(first, [[0, 0, 1, 0, 0], [0], [-6], [-6]])
        # In another order, and with answers that their owner changed.
        benches.make(2, good, [0, 1, 0]).append(7)
        benches.judge(good, [0, 1]).clear()
        again = [judged(wrong, 0), made(1, wrong), judged(good, 0, 1), made(2, good, (0, 1, 0))]
        self.assertEqual(again, first[::-1])

    def test_nothing_is_kept_between_calls(self):
        for turn in (SAMPLES, SAMPLES[::-1], SAMPLES[::2] + SAMPLES[1::2]):
            for name, values, answer in turn:
                given = getattr(benches, name)(**values)
                self.assertEqual(given, answer, name)
                # Its owner changes the answer.
                given.append(7)

    def test_the_longest_lists(self):
        t = lines("rule a: => p", "rule b: => q")
        self.assertEqual(made(1, t, *[(0, 0, 1)] * 1000), [0, 2, 0])
        self.assertEqual(judged(t, *[0] * 3000), [-2, 1, 0, 0])
        self.assertEqual(made(1, t + [10] * (8300 - len(t))), [-1])


if __name__ == "__main__":
    unittest.main()
