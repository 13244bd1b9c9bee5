"""[34] to [36]: runs of lone paths."""

import random
import unittest

from helpers import NO_NUMBERS, ODD_VALUES, error_of
from random_houses import random_house, random_path
from run_oracle import Player
from handsroom.houses import House
from handsroom.loneruns import Run, play
from handsroom.spreading import Spread

HEAD = "\n".join([
    "lock a", "lock b", "kind box a f g", "kind bag - n", "body fill box : +a +b a>b box.f bag.n",
    "body share box* : bag.n", "body lend box : +a +b =a =b", "routine r x:box y:box u:bag"])


def spread(*rows):
    return Spread(House.read("\n".join([HEAD, *rows, "done"])), "r")


def straight(one, *locks):
    """The lone path that goes over the first next nodes; giving calls give the locks told."""
    from handsroom.lonetable import START, next_nodes
    path, told = [START], list(locks)
    while next_nodes(one, path[-1]):
        nexts = next_nodes(one, path[-1])
        if len(nexts) > 1 and told and one.points[path[-1][0]].step[0] == "call":
            nexts = [node for node in nexts if node[1][-1][1] == told[0]]
            told.pop(0)
        path.append(nexts[0])
    return path


OBJECTS = (("box", (1, 2)), ("bag", (3,)), ("box", (4, 5)))


class RunTest(unittest.TestCase):
    def test_fields(self):
        run = Run([("box", [1, 2]), ("bag", (3,))], [0, 0, 1], [None, [("want", "a"), ["take"]], (["back"],), 7, "x", []])
        self.assertEqual(run.objects, (("box", (1, 2)), ("bag", (3,))))
        self.assertEqual(run.start, (0, 0, 1))
        self.assertEqual(run.answers, (None, (("want", "a"), ("take",)), (("back",),), 7, "x", ()))

    def test_a_list_that_changes_later_changes_nothing(self):
        objects, start, moves, answers = [("box", [1, 2])], [0], [["back"]], [None]
        answers.append(moves)
        run = Run(objects, start, answers)
        for told in (objects, start, moves, answers, objects[0][1]):
            told.append(("more",))
        self.assertEqual((run.objects, run.start, run.answers), ((("box", (1, 2)),), (0,), (None, (("back",),))))
        self.assertEqual(len(moves), 2)

    def test_nothing_is_checked(self):
        run = Run([("none", (None,))], [True], [3])
        self.assertEqual((run.objects, run.start, run.answers), ((("none", (None,)),), (True,), (3,)))


class PlayTest(unittest.TestCase):
    def played(self, rows, answers, start=(0, 2, 1), locks=()):
        one = spread(*rows)
        path = straight(one, *locks)
        return play(one, path[:len(answers) + 1], Run(OBJECTS, start, answers))

    def test_make_write_read(self):
        played = self.played(["do make x, write x g, read x g, keep x f, keep y f"], [None, 9, None, None])
        self.assertEqual(played.leads, ((0, 2, 1),) + ((3, 2, 1),) * 4)
        self.assertEqual(played.own, ((),) + ((3,),) * 4)
        self.assertEqual([one[0] for one in played.numbers], [(1, 2), (0, 0), (0, 9), (0, 9), (0, 9)])
        self.assertEqual([one[0] for one in played.sheets], [(None, None), (0, 0), (0, 9), (0, 9), (0, 9)])
        self.assertEqual(played.shown, (None, None, 9, 0, None))
        self.assertEqual(played.faults, (None, None, None, None, "stale"))
        self.assertEqual(played.contents, OBJECTS + (("box", (0, 9)),))
        for field in (played.leads, played.own, played.numbers, played.sheets, played.shown, played.faults):
            self.assertEqual((type(field), len(field)), (tuple, 5))

    def test_copies_share_a_sheet(self):
        played = self.played(["do copy y x, read x f, keep y f, write y f, keep x f, fetch y x, keep y f"],
                             [None, None, None, 8, None, 2])
        self.assertEqual(played.shown, (None, 1, 1, None, 8, None, None))
        self.assertEqual(played.leads[1:6], ((0, 0, 1),) * 5)
        self.assertEqual(played.leads[6], (0, 2, 1))
        self.assertEqual(played.sheets[6], ((8, None), (None, None), (None,)))
        self.assertEqual(played.faults, (None, "bare", None, "bare", None, None, "stale"))

    def test_names_of_one_object_have_sheets_of_their_own(self):
        played = self.played(["do read x f, write y f, keep x f, keep y f"], [None, 7, None], start=(0, 0, 1))
        self.assertEqual(played.shown, (1, None, 1, 7))
        self.assertEqual(played.faults, ("bare", "bare", "stale", None))

    def test_a_keep_touches_nothing_and_shows_none(self):
        played = self.played(["do keep x f, keep u n"], [None])
        self.assertEqual((played.shown, played.faults), ((None, None), ("stale", "stale")))

    def test_guards_take_the_fault_away(self):
        rows = ["with take a", "do read x f, write y g, call fill x", "close", "do call fill x, call share x, read u n"]
        played = self.played(rows, [None, None, 1, (), None, (), ()])
        self.assertEqual(played.faults, (None,) * 5 + ("bare", None, None))
        own = self.played(["do make x, read x f, call fill x, put x, read x f"], [None, None, (), None])
        self.assertEqual(own.faults, (None, None, None, None, "bare"))
        self.assertEqual(own.own, ((), (3,), (3,), (3,), ()))

    def test_calls_change_and_share(self):
        moves = [("change", 3, "f", 6), ["change", 1, "n", 7], ("want", "a"), ("take",), ("change", 2, "f", 8), ("back",)]
        played = self.played(["do make x, read y f, call fill x, keep y f, call share x, keep x f"],
                             [None, None, moves, None, ()])
        self.assertEqual(played.contents, (("box", (1, 2)), ("bag", (7,)), ("box", (8, 5)), ("box", (6, 0))))
        self.assertEqual(played.shown, (None, 4, None, 4, None, 0))
        self.assertEqual(played.faults, (None, "bare", None, "stale", None, "stale"))
        self.assertEqual(played.own[-2:], ((3,), ()))
        self.assertEqual(played.sheets[-1], ((0, 0), (4, None), (None,)))

    def test_giving_calls(self):
        rows = ["do call lend x as g, call lend x as h"]
        give = (("want", "b"), ("take",))
        first = (("want", "a"), ("take",), ("back",)) + give
        played = self.played(rows, [first, give[:0] + (("want", "a"), ("take",))], locks=["b"])
        self.assertEqual(len(played.shown), 3)
        self.assertEqual(error_of(self.played, rows, [()], locks=["b"]), ("BadRun", 0))
        self.assertEqual(error_of(self.played, rows, [give], locks=["a"]), ("BadRun", 0))
        self.assertEqual(error_of(self.played, rows, [give, give], locks=["b"]), ("BadRun", 1))
        wait = (("want", "b"), ("take",), ("back",), ("want", "a"), ("take",))
        self.assertEqual(error_of(self.played, rows, [give, wait], locks=["b"]), ("BadRun", 1))

    def test_bad_paths_come_first(self):
        one = spread("do skip")
        for path, position in [([], 0), ([(1, ())], 0), ([(0, ()), (0, ())], 1)]:
            self.assertEqual(error_of(play, one, path, Run([], [], [None])), ("BadPath", position))

    def test_bad_beginnings(self):
        one = spread("do fetch x, skip")
        path = straight(one)[:2]
        good = (OBJECTS, (0, 2, 1), (7,))
        self.assertEqual(error_of(play, one, path, Run(*good)), ("BadRun", 0))

        def check(objects=OBJECTS, start=(0, 2, 1), answers=(7,)):
            self.assertEqual(error_of(play, one, path, Run(objects, start, answers)), ("BadRun", -1))
        check(answers=())
        check(answers=(0, None))
        for kind in ODD_VALUES + ("cup", "a", 0):
            check(OBJECTS + ((kind, (1,)),))
        for numbers in [(1,), (), (1, 2, 3), (1, None), (True, 1), (1, "2"), (2.0, 1), [1, True], None, 7, "12",
                        {1: 1, 2: 2}]:
            check(OBJECTS + (("box", numbers),))
        for value in ODD_VALUES + (("box",), ("box", (1, 2), 3), 4, ["box", (1, 2)], [("box", (1, 2))]):
            check(OBJECTS + (value,))
        check(OBJECTS[:1] + OBJECTS[2:], (0, 1, 0))
        check((("bag", (1,)),), (0, 0, 0))
        check((), ())
        for start in [(), (0, 2), (0, 2, 1, 1), (0, 1, 1), (1, 0, 1), (0, 2, 0), (0, 3, 1), (0, -1, 1)]:
            check(start=start)
        for value in NO_NUMBERS:
            check(start=(0, value, 1))

    def test_each_kind_of_the_house_has_a_first_object(self):
        one = Spread(House.read("kind k - n\nkind m - n\nroutine r x:k\ndone"), "r")
        self.assertEqual(error_of(play, one, [(0, ())], Run([("k", (1,))], (0,), ())), ("BadRun", -1))
        self.assertEqual(play(one, [(0, ())], Run([("k", (1,)), ("m", (2,))], (0,), ())).leads, ((0,),))

    def test_bad_answers(self):
        rows = ["do fetch x y, write x f, skip, call share x, read x f, make y, fetch y, take b, call fill x"]
        good = [0, 5, None, (), None, None, 0, None]
        self.assertEqual(len(self.played(rows, good).shown), 9)
        wrong = {
            0: NO_NUMBERS + (2, 1, 3, -1, 10 ** 40), 1: NO_NUMBERS, 2: NO_NUMBERS[1:] + (0, -1),
            3: [value for value in NO_NUMBERS if value not in ((), [])] + [
                0, (("back",),), (("leave", None),), (("want", "a"),), ((),), "take", (("change", 0, "f", 1),)],
            4: [4, 1, False, (), "None"], 5: [3, ()], 6: NO_NUMBERS + (3, 1, 4), 7: [0, "b", ()],
        }
        for at, values in wrong.items():
            for value in values:
                answers = good[:at] + [value] + ["wrong"] * (7 - at)
                self.assertEqual(error_of(self.played, rows, answers), ("BadRun", at), (at, value))

    def test_inside_moves_see_the_guards_of_the_node(self):
        moves = (("want", "b"), ("take",), ("back",))
        self.assertEqual(len(self.played(["do take a, call fill x, skip"], [None, moves]).shown), 3)
        self.assertEqual(error_of(self.played, ["do take b, call fill x, skip"], [None, moves]), ("BadRun", 1))
        change = (("change", 2, "f", 1),)
        self.assertEqual(error_of(self.played, ["with take a", "do call fill x", "close", "do skip"], [None, change]),
                         ("BadRun", 1))

    def test_an_object_that_was_put_may_be_fetched(self):
        played = self.played(["do make x, put x, fetch y x, fetch y"], [None, None, 0])
        self.assertEqual(played.leads[-1], (3, 0, 1))
        rows = ["do make x, put x, fetch y, skip"]
        self.assertEqual(self.played(rows, [None, None, 3]).leads[-1], (3, 3, 1))
        self.assertEqual(error_of(self.played, ["do make x, fetch y, skip"], [None, 3]), ("BadRun", 1))
        self.assertEqual(error_of(self.played, ["do make x, put x, fetch y x, skip"], [None, None, 3]), ("BadRun", 2))

    def test_nothing_passed_is_changed(self):
        one = spread("do write x f")
        path, run = straight(one)[:2], Run(OBJECTS, (0, 2, 1), (77,))
        for _ in range(2):
            self.assertEqual(play(one, path, run).contents[0], ("box", (77, 2)))
        self.assertEqual((run.objects, path), (OBJECTS, straight(one)[:2]))

    def test_against_the_oracle(self):
        rng = random.Random(14)
        words = {}
        for seed in range(500):
            one = Spread(random_house(seed, rows=8), "r")
            path = random_path(rng, one, 14)
            self.random_run(rng, one, path, words)
        self.assertGreater(min(words.values()), 20)
        self.assertEqual(sorted(words), sorted("skip make copy fetch read keep write put call take drop".split()))

    def random_run(self, rng, one, path, words):
        objects = [(kind, tuple(rng.randint(0, 3) for _ in one.house.fields_of(kind)))
                   for kind in one.house.kinds for _ in range(3)]
        names = one.house.routine_of(one.name).names
        start = [rng.choice([at for at, row in enumerate(objects) if row[0] == kind]) for _, kind in names]
        player = Player(one, Run(objects, start, []))
        answers, moments = [], [player.moment(path[0])]
        for node, following in zip(path, path[1:]):
            possible = player.answers(node, following)
            if not possible:
                break
            answers.append(rng.choice(possible))
            step = one.points[node[0]].step
            words[step[0]] = words.get(step[0], 0) + 1
            player.step(step, answers[-1])
            moments.append(player.moment(following))
        path = path[:len(answers) + 1]
        played = play(one, path, Run(objects, start, answers))
        found = (played.leads, played.own, played.numbers, played.sheets, played.shown, played.faults)
        self.assertEqual(found, tuple(zip(*moments)))
        self.assertEqual(played.contents, tuple((kind, tuple(row.values())) for kind, row, _ in player.objects))


if __name__ == "__main__":
    unittest.main()
