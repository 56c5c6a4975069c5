import contextlib
import unittest
from unittest import mock

from cardwright import jobs
from cardwright.errors import BadJob, BadProgram
from cardwright.jobs import load, report, run_job
from cardwright.parsing import parse

PERCENT = chr(37)
TEXT = """program count-lines .
data .
  01 row .
    05 worker picture x(4) .
    05 hours picture 99 .
  01 total picture 9(4) .
files .
  input hours-file record row .
  output list-file record row .
  input more-file record row .
procedure .
main .
  perform next-line until total > 100 .
next-line .
  read hours-file at end
    read more-file at end stop . end .
  bad
    show 'bad line' .
  end .
  set total to total + hours .
  write list-file .
  show worker total .
"""
NO_FILES = "program p . data . 01 i picture 9 . files . procedure . main . set i to 5 . show i ."
WRONG = "program p . data . files . procedure . main . set b to 1 ."
LINES = {"hours-file": ("ann 08", "bob 40", "cy"), "more-file": ("dee 07",)}
WAYS = ["plain", "code", "short"]
MOST = 10 ** 9


class JobCase(unittest.TestCase):
    def check_error(self, reason, text, lines, steps, way):
        with self.assertRaises(BadJob, msg=(lines, steps, way)) as caught:
            run_job(text, lines, steps, way)
        self.assertEqual(caught.exception.reason, reason, (lines, steps, way))


class TestLoad(unittest.TestCase):
    def test_901_load(self):
        self.assertEqual(load(TEXT), parse(TEXT))
        self.assertEqual(load(NO_FILES), parse(NO_FILES))

    def test_901_faults(self):
        with self.assertRaises(BadProgram) as caught:
            load("program p .\ndata .\n wrong")
        self.assertEqual((caught.exception.line, caught.exception.reason), (3, "word"))
        with self.assertRaises(BadJob) as caught:
            load(WRONG)
        self.assertEqual(caught.exception.reason, "check")


class TestRunJob(JobCase):
    def test_900_ways(self):
        for way in WAYS:
            self.assertEqual(run_job(TEXT, LINES, 100, way), (
                "stop", 73, "dee 070095", (("list-file", ("ann 08", "bob 40", "bob 40", "dee 07")),), ("ann 8", "bob 48", "bad line", "bob 88", "dee 95")))
            self.assertEqual(run_job(NO_FILES, {}, 2, way), ("end", 0, "5", (), ("5",)))
            self.assertEqual(run_job(NO_FILES, {}, MOST, way), ("end", MOST - 2, "5", (), ("5",)))

    def test_900_what_each_way_runs(self):
        names = ["run_plain", "compile_program", "shorten", "run_code"]
        for way, used in [("plain", [True, False, False, False]), ("code", [False, True, False, True]), ("short", [False, True, True, True])]:
            with contextlib.ExitStack() as stack:
                patches = [stack.enter_context(mock.patch.object(jobs, name, wraps=getattr(jobs, name))) for name in names]
                run_job(TEXT, LINES, 100, way)
            self.assertEqual([patch.called for patch in patches], used, way)

    def test_900_every_number_of_steps(self):
        for steps in range(30):
            outcomes = [run_job(TEXT, LINES, steps, way) for way in WAYS]
            self.assertEqual(outcomes[0], outcomes[1])
            self.assertEqual(outcomes[0], outcomes[2])
            self.assertEqual(outcomes[0][0], "steps" if steps < 27 else "stop")

    def test_901_way(self):
        for way in ["", "Plain", "plain ", "shortened", "machine", None, 1, ["plain"], ("plain",), b"plain", {}]:
            self.check_error("way", NO_FILES, {}, 5, way)

    def test_901_parse(self):
        for way in WAYS:
            with self.assertRaises(BadProgram) as caught:
                run_job("program p .\nwrong", {}, 5, way)
            self.assertEqual((caught.exception.line, caught.exception.reason), (2, "word"))

    def test_901_check(self):
        for way in WAYS:
            self.check_error("check", WRONG, {}, 5, way)

    def test_901_files(self):
        for lines in [{}, {"hours-file": ()}, {"more-file": ()}, {"hours-file": (), "more-file": (), "list-file": ()}, {"hours-file": (), "list-file": ()},
                      {"hours-file": (), "more-file": (), "": ()}, {"hours-file": (), "more-file ": ()}, {"hours-file": (), "row": ()}, {"hours-file": (), 1: ()},
                      {"hours-file": (), "more-file": (), None: ()}, None, [], (), "hours-file", [("hours-file", ()), ("more-file", ())], {"hours-file", "more-file"}, 5]:
            for way in WAYS:
                self.check_error("files", TEXT, lines, 5, way)
        for lines in [{"i": ()}, {"": ()}, None, [], ()]:
            self.check_error("files", NO_FILES, lines, 5, "plain")

    def test_901_lines(self):
        for value in [[], ["a"], None, "", "a", {}, (None,), (1,), (b"a",), ("a", None), (("a",),), ("a\n",), ("a\t",), (PERCENT,), ("\xe4",), ("\x7f",), ("a" * 4001,),
                      ("a" * 4000, "a" * 4001), ("a", ["b"])]:
            for way in WAYS:
                self.check_error("lines", TEXT, {"hours-file": value, "more-file": ()}, 5, way)
                self.check_error("lines", TEXT, {"hours-file": (), "more-file": value}, 5, way)
        for value in [(), ("",), ("a" * 4000,), ("~", " ", "'", "\\"), tuple("a" for _ in range(5000))]:
            for way in WAYS:
                self.assertEqual(run_job(TEXT, {"hours-file": value, "more-file": value}, 0, way)[0], "steps")

    def test_901_steps(self):
        for steps in [-1, MOST + 1, True, False, 1.0, "5", None, (5,), 10 ** 30, -10 ** 30]:
            for way in WAYS:
                self.check_error("steps", NO_FILES, {}, steps, way)
        for steps in [0, 1, 2, MOST]:
            for way in WAYS:
                self.assertEqual(run_job(NO_FILES, {}, steps, way)[0], "end" if steps > 1 else "steps")

    def test_901_order(self):
        bad_files, bad_lines = {}, {"hours-file": (1,), "more-file": ()}
        self.check_error("way", "wrong", bad_files, -1, "no way")
        self.check_error("way", WRONG, None, True, "")
        self.check_error("way", TEXT, bad_lines, 5, "")
        with self.assertRaises(BadProgram):
            run_job("wrong", bad_files, -1, "plain")
        self.check_error("check", WRONG, {"a": 1}, -1, "plain")
        self.check_error("files", TEXT, {"hours-file": 1}, -1, "plain")
        self.check_error("files", TEXT, {"hours-file": 1, "more-file": 1, "a": 1}, None, "code")
        self.check_error("lines", TEXT, bad_lines, -1, "plain")
        self.check_error("lines", TEXT, bad_lines, None, "short")
        self.check_error("steps", TEXT, LINES, -1, "short")

    def test_3_what_is_passed_stays(self):
        lines = dict(LINES)
        for way in WAYS:
            run_job(TEXT, lines, 100, way)
            self.assertEqual(lines, LINES)
            self.assertEqual(list(lines), list(LINES))


class TestReport(unittest.TestCase):
    def test_902_report(self):
        self.assertEqual(report(("end", 5, "ab ", (), ())), ["end end", "left 5", "storage ab "])
        self.assertEqual(report(("stop", 0, "", (("f", ()),), ())), ["end stop", "left 0", "storage "])
        self.assertEqual(report(("index", 10 ** 9, " ", (("f", ("one", "")), ("e", ()), ("g-1", ("three",))), ("a", "", "b: c"))), [
            "end index", "left 1000000000", "storage  ", "f: one", "f: ", "g-1: three", "shown: a", "shown: ", "shown: b: c"])
        self.assertEqual(report(("steps", 0, "", (), ("a",))), ["end steps", "left 0", "storage ", "shown: a"])

    def test_902_of_a_run(self):
        self.assertEqual(report(run_job(TEXT, LINES, 12, "code")), [
            "end steps", "left 0", "storage bob 400048", "list-file: ann 08", "list-file: bob 40", "shown: ann 8", "shown: bob 48"])
        outcome = run_job(TEXT, LINES, 12, "code")
        self.assertIsInstance(report(outcome), list)
        self.assertEqual(outcome, run_job(TEXT, LINES, 12, "code"))


if __name__ == "__main__":
    unittest.main()
