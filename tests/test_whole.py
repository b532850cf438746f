"""What the document promises over the whole program."""

import copy
import inspect
import pathlib
import random
import subprocess
import sys
import unittest

from hearhall import music, parts, songs
from steady import SteadyCase

ROOT = pathlib.Path(__file__).resolve().parent.parent

# The interface: each function, what it takes, and things to hand in, a refusal among them where there is one.
INTERFACE = {
    music.samples: ("kind sides n bytes_in", [(1, 2, 1, [1, 2, 3, 4]), (5, 1, 3, [])]),
    music.row: ("op a b", [(0, [1, 2], [3, 4]), (8, [1], [2])]),
    music.sum_of: ("a b", [([1, 2], [3, 4])]),
    music.turns: ("x", [([1, -1, 1],)]),
    music.middle: ("x", [([5, 1, 4, 2, 3],)]),
    music.crest: ("w x", [(2, [5, 1, 4]), (0, [5])]),
    music.signs: ("x", [([5, -1, 4],)]),
    music.unlike: ("a b", [([1, 2], [3, 4])]),
    music.counts: ("x", [([0, 255, 0],)]),
    music.peaks: ("least x", [(1, [0, 2, 0])]),
    music.levels: ("e", [([0, 1, 18446744073709551615],)]),
    music.lags: ("k x", [(3, [1, -2, 3])]),
    music.apart: ("k x", [(3, [1, 2, 3])]),
    music.pitch: ("low high x", [(1, 4, [5, 0, -5, 0, 5, 0, -5]), (0, 1, [1])]),
    music.ear: ("bands hop most said coefs x y z", [
        (1, 2, 9, 1, [16384, 1, 2, 3, 4], [1, 2, 3], [4], [5, 6]), (1, 2, 1, 1, [1] * 5, [1] * 9, [1], [1]),
        (0, 1, 1, 1, [], [], [], [])]),
    music.way: ("n m w band a b", [(2, 3, 1, 1, [1, 2], [1, 2, 3]), (0, 1, 1, 1, [], [1])]),
    music.period: ("low high news", [(1, 3, [1, 0, 1, 0]), (2, 1, [1])]),
    music.beats: ("spell stiff news", [(2, 1, [5, 0, 5, 0, 5]), (0, 1, [5])]),
    music.fold: ("bands first louds", [(3, 1, [1, 2, 3, 4]), (65, 0, [1])]),
    music.key: ("h", [(list(range(12)),)]),
    songs.songs: ("calls", [([[1, 5, 6], [3, 9, 5], [4, 6], [2, 0], [2, 0], [1]],)]),
}


def kept():
    """All that the package's files keep beside functions and classes."""
    answer = {}
    for module in (music, parts, songs):
        for name, value in vars(module).items():
            if not name.startswith("__") and not callable(value):
                answer[module.__name__, name] = copy.deepcopy(value)
    return answer


class Interface(SteadyCase):
    def test_names_and_arguments(self):
        for function, (names, given) in INTERFACE.items():
            parameters = inspect.signature(function).parameters.values()
            self.assertEqual([parameter.name for parameter in parameters], names.split(), function.__name__)
            self.assertTrue(all(parameter.default is parameter.empty for parameter in parameters))

    def test_where_they_stand(self):
        for function in INTERFACE:
            module = "hearhall.songs" if function.__name__ == "songs" else "hearhall.music"
            self.assertEqual(function.__module__, module)

    def test_by_their_names(self):
        for function, (names, given) in INTERFACE.items():
            for one in given:
                self.assertEqual(function(**dict(zip(names.split(), one))), function(*one))

    def test_nothing_handed_in_is_changed(self):
        for function, (names, given) in INTERFACE.items():
            for one in given:
                self.call(function, *one)

    def test_a_refusal_is_alone(self):
        for function, (names, given) in INTERFACE.items():
            if len(given) > 1 and function not in (music.ear, music.pitch, music.period):
                self.assertEqual(function(*given[-1]), [-2], function.__name__)


class Nothing(unittest.TestCase):
    def test_is_kept_from_one_time_to_the_next(self):
        calls = [(function, one) for function, (names, given) in INTERFACE.items() for one in given]
        first = [function(*copy.deepcopy(one)) for function, one in calls]
        before = kept()
        order = list(range(len(calls)))
        chance = random.Random(9)
        for turn in range(20):
            chance.shuffle(order)
            for place in order:
                function, one = calls[place]
                self.assertEqual(function(*copy.deepcopy(one)), first[place], function.__name__)
        self.assertEqual(kept(), before)

    def test_can_be_kept_in_what_the_files_hold(self):
        # What can't be changed needs no watching.
        for place, value in kept().items():
            self.assertIsInstance(value, (int, str, tuple), place)

    def test_is_imported_but_the_packages_own(self):
        code = ("import sys; before = set(sys.modules); import hearhall.music, hearhall.songs; "
                "print(sorted(set(sys.modules) - before))")
        run = subprocess.run([sys.executable, "-B", "-c", code], cwd=ROOT, capture_output=True, text=True, check=True)
        self.assertEqual(run.stdout.strip(), str(["hearhall", "hearhall.music", "hearhall.parts", "hearhall.songs"]))
        self.assertEqual(run.stderr, "")

    def test_is_read_or_opened(self):
        # From here on every file, socket and the like that is opened is told of.
        events = []
        watching = [True]

        def hook(event, given):
            if watching[0]:
                events.append(event)

        sys.addaudithook(hook)
        for function, (names, given) in INTERFACE.items():
            for one in given:
                function(*one)
        watching[0] = False
        self.assertEqual(events, [])


class Deep(unittest.TestCase):
    def test_long_inputs_are_gone_through_by_loops(self):
        limit = sys.getrecursionlimit()
        # As few calls within one another as the test itself needs, and some more.
        sys.setrecursionlimit(len(inspect.stack()) + 30)
        try:
            self.assertEqual(music.beats(1, 0, [1] * 4096)[0], 4096)
            self.assertEqual(music.way(512, 512, 1, 1, [1] * 512, [1] * 512)[0], 512)
            self.assertEqual(music.turns([1, -1] * 30000), [59999])
            self.assertEqual(songs.songs([[1, 5]] * 100)[-2:], [-1, 0])
            self.assertEqual(music.ear(1, 1, 65536, 1, [16384, 0, 0, 0, 0], [1] * 60000, [], [])[1], 60000)
        finally:
            sys.setrecursionlimit(limit)


if __name__ == "__main__":
    unittest.main()
