"""Runs the tests in all files test_*.py below the folders that are named, and ends with how many passed and failed."""

import importlib.util
import pathlib
import sys
import unittest

ROOT = pathlib.Path(__file__).resolve().parent.parent


def load(path, number):
    """The tests of one file; the number keeps files of the same name in two folders apart."""
    name = "suite_%d_%s" % (number, path.stem)
    spec = importlib.util.spec_from_file_location(name, path)
    module = importlib.util.module_from_spec(spec)
    sys.modules[name] = module
    spec.loader.exec_module(module)
    return unittest.defaultTestLoader.loadTestsFromModule(module)


def unloadable(path, error):
    def fail():
        raise error
    return unittest.FunctionTestCase(fail, description="load %s" % path)


def collect(folders):
    suite = unittest.TestSuite()
    paths = [path for folder in folders for path in sorted(pathlib.Path(folder).resolve().rglob("test_*.py"))]
    for number, path in enumerate(paths):
        # A test from elsewhere may import what lies beside it; the project's own name what they import in full.
        if ROOT not in path.parents and str(path.parent) not in sys.path:
            sys.path.append(str(path.parent))
        print("tests of", path)
        try:
            suite.addTest(load(path, number))
        except (Exception, SystemExit) as error:
            suite.addTest(unloadable(path, error))
    return suite


class Result(unittest.TextTestResult):
    """Counts whole tests, however many of their parts fail."""

    def failed_count(self):
        bad = [test for test, text in self.failures + self.errors] + list(self.unexpectedSuccesses)
        return len({id(getattr(test, "test_case", test)) for test in bad})


def main(folders):
    sys.path.insert(0, str(ROOT))
    suite = collect(folders)
    result = unittest.TextTestRunner(stream=sys.stdout, resultclass=Result).run(suite)
    failed = result.failed_count()
    skipped = len(result.skipped)
    print("%d passed, %d failed, %d skipped" % (max(result.testsRun - failed - skipped, 0), failed, skipped))
    return 0 if result.wasSuccessful() and result.testsRun > 0 else 1


if __name__ == "__main__":
    sys.exit(main(sys.argv[1:]))
