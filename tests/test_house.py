import copy
import random
import unittest

from backrun.errors import StepError
from backrun.faults import faults
from backrun.house import House
from backrun.run import empty_store, run, trace
from tests.samples import COUNTING, FIBONACCI, SKIP, TURNING, Maker, num, plus, program, var

# a goes up for ever
FOREVER = program([("loop", ("not", var("a")), (plus("a", num(1)),), (SKIP,), num(0))], declared=(("a", 0),), width=32)

# fails in the 4th turn of its loop
FAILING = program([("loop", ("less", var("a"), num(1)), (plus("a", num(1)),), (
    ("if", var("a"), (), (), ("less", var("a"), num(4))),), num(0))], declared=(("a", 0), ("r", 2)))


def store_with(made, **words):
    return tuple((name, words.get(name, value)) for name, value in empty_store(made))


SAMPLES = (
    (COUNTING, store_with(COUNTING, a=5, b=7)), (FIBONACCI, store_with(FIBONACCI, n=4)),
    (TURNING, store_with(TURNING, r=(1, 2, 3, 4, 5))), (FAILING, empty_store(FAILING)), (program([]), empty_store(program([]))),
    (program([SKIP]), empty_store(program([SKIP]))), (program([("if", num(1), (), (), num(0))]), empty_store(program([]))),
)


class HouseTest(unittest.TestCase):
    def house(self, made, store):
        self.assertEqual(faults(made), [])
        return House(made, store)

    def stands(self, house, made, store, place):
        """Look whether the house stands at a place of the run."""
        last, end, steps = run(made, store, fuel=place)
        self.assertEqual(steps, place)
        self.assertEqual(house.where(), place)
        self.assertEqual(house.store(), last)
        self.assertEqual(house.ending(), end)
        paths = list(trace(made, store, fuel=place + 1))
        self.assertEqual(house.next_path(), paths[place] if place < len(paths) else None)
        self.assertEqual(house.next_path() is None, end != ("none",))


class Moves(HouseTest):
    def test_the_beginning(self):
        for made, store in SAMPLES:
            self.stands(self.house(made, store), made, store, 0)

    def test_one_step_at_a_time(self):
        for made, store in SAMPLES:
            total = run(made, store, fuel=10 ** 6)[2]
            house = self.house(made, store)
            for place in range(total):
                self.assertEqual(house.forward(1), 1)
                self.stands(house, made, store, place + 1)
            self.assertEqual(house.forward(1), 0)
            self.stands(house, made, store, total)
            for place in range(total - 1, -1, -1):
                self.assertEqual(house.back(1), 1)
                self.stands(house, made, store, place)
            self.assertEqual(house.back(1), 0)
            self.stands(house, made, store, 0)

    def test_counts(self):
        for made, store in SAMPLES:
            total = run(made, store, fuel=10 ** 6)[2]
            house = self.house(made, store)
            for count in (0, 1, total // 2, total, total + 1, 10 ** 9):
                moved = min(count, total)
                self.assertEqual(house.forward(count), moved)
                self.stands(house, made, store, moved)
                self.assertEqual(house.forward(0), 0)
                self.assertEqual(house.back(0), 0)
                self.stands(house, made, store, moved)
                self.assertEqual(house.forward(10 ** 9), total - moved)
                self.stands(house, made, store, total)
                self.assertEqual(house.back(count), moved)
                self.stands(house, made, store, total - moved)
                self.assertEqual(house.back(10 ** 9), total - moved)
                self.stands(house, made, store, 0)

    def test_the_end_of_runs(self):
        house = self.house(*SAMPLES[3])
        house.forward(1000)
        self.assertEqual(house.ending(), ("fail", "exit", (0, 0, 1, 0)))
        house.back(1)
        self.assertEqual(house.ending(), ("none",))
        house = self.house(*SAMPLES[0])
        house.forward(1000)
        self.assertEqual(house.ending(), ("done",))
        self.assertIsNone(house.next_path())

    def test_an_empty_run(self):
        made = program([])
        house = self.house(made, empty_store(made))
        self.assertEqual((house.where(), house.ending(), house.next_path()), (0, ("done",), None))
        self.assertEqual((house.forward(5), house.back(5)), (0, 0))

    def test_no_end(self):
        store = empty_store(FOREVER)
        house = self.house(FOREVER, store)
        self.assertEqual(house.forward(3000), 3000)
        self.stands(house, FOREVER, store, 3000)
        self.assertEqual(house.back(1), 1)
        self.stands(house, FOREVER, store, 2999)
        self.assertEqual(house.back(5000), 2999)
        self.stands(house, FOREVER, store, 0)

    def test_random_ones(self):
        for seed in range(150):
            maker = Maker(seed)
            made = maker.program()
            store = maker.store(made)
            house = self.house(made, store)
            place = 0
            total = run(made, store, fuel=300)[2]
            ends = run(made, store, fuel=300)[1] != ("none",)
            for _ in range(12):
                count = maker.random.choice((0, 1, 2, 7, 30))
                if maker.random.random() < 0.6 and (ends or place + count < 300):
                    moved = min(count, total - place)
                    self.assertEqual(house.forward(count), moved)
                    place += moved
                else:
                    moved = min(count, place)
                    self.assertEqual(house.back(count), moved)
                    place -= moved
                self.stands(house, made, store, place)

    def test_the_store_stands_where_a_call_is_under_way(self):
        made = program([("call", "p", ("a", "r"))], declared=(("a", 0), ("r", 2)), procedures=[
            ("p", (("x", 0), ("m", 2)), (plus("x", num(5)), ("plus", ("cell", "m", num(1)), var("x")), plus("x", num(1))))])
        house = self.house(made, empty_store(made))
        stores = []
        for _ in range(5):
            stores.append(house.store())
            house.forward(1)
        self.assertEqual(stores, [(("a", a), ("r", (0, r))) for a, r in ((0, 0), (0, 0), (5, 0), (5, 5), (6, 5))])
        house.back(2)
        self.assertEqual(house.store(), (("a", 5), ("r", (0, 0))))

    def test_two_houses(self):
        made, store = SAMPLES[0]
        one, other = House(made, store), House(made, store)
        one.forward(4)
        self.stands(other, made, store, 0)
        other.forward(7)
        self.stands(one, made, store, 4)

    def test_what_was_passed_stays(self):
        for made, store in SAMPLES:
            before = copy.deepcopy((made, store))
            house = House(made, store)
            house.forward(50)
            house.back(3)
            house.until((0, 0), limit=5)
            house.before((0, 0), limit=5)
            house.store()
            if store:
                house.poke(store[0][0], store[0][1])
            self.assertEqual((made, store), before)


class Searches(HouseTest):
    def places(self, made, store, path):
        return [at for at, taken in enumerate(trace(made, store, fuel=400)) if taken == path]

    def test_all_paths_from_all_places(self):
        for made, store in SAMPLES[:5]:
            total = run(made, store, fuel=10 ** 6)[2]
            paths = sorted(set(trace(made, store, fuel=400))) + [(0, 99), (9, 9), ()]
            for place in range(0, total + 1, 1 if total < 30 else 7):
                for path in paths:
                    places = self.places(made, store, path)
                    house = self.house(made, store)
                    house.forward(place)
                    later = [at for at in places if at > place]
                    self.assertIs(house.until(path), bool(later))
                    self.stands(house, made, store, later[0] if later else total)
                    house = self.house(made, store)
                    house.forward(place)
                    earlier = [at for at in places if at < place]
                    self.assertIs(house.before(path), bool(earlier))
                    self.stands(house, made, store, earlier[-1] if earlier else 0)

    def test_limits(self):
        made, store = SAMPLES[0]
        # the loop's first statement comes again and again
        path = (0, 0, 0, 0, 0, 0)
        places = self.places(made, store, path)
        self.assertEqual(len(places), 5)
        gap = places[2] - places[1]
        for limit in range(gap + 3):
            house = self.house(made, store)
            house.forward(places[1])
            self.assertIs(house.until(path, limit=limit), limit >= gap)
            self.stands(house, made, store, places[1] + min(limit, gap))
            house = self.house(made, store)
            house.forward(places[2])
            self.assertIs(house.before(path, limit=limit), limit >= gap)
            self.stands(house, made, store, places[2] - min(limit, gap))

    def test_limits_at_the_ends(self):
        made, store = SAMPLES[0]
        total = run(made, store, fuel=10 ** 6)[2]
        for limit in (total - 1, total, total + 1, 10 ** 6):
            house = self.house(made, store)
            self.assertIs(house.until((7, 7), limit=limit), False)
            self.stands(house, made, store, min(limit, total))
            house.forward(10 ** 6)
            self.assertIs(house.before((7, 7), limit=limit), False)
            self.stands(house, made, store, max(total - limit, 0))

    def test_one_behind_the_other(self):
        made, store = SAMPLES[0]
        path = (0, 0, 0, 0)
        places = self.places(made, store, path)
        house = self.house(made, store)
        for place in places:
            self.assertIs(house.until(path), True)
            self.stands(house, made, store, place)
        self.assertIs(house.until(path), False)
        for place in places[::-1]:
            self.assertIs(house.before(path), True)
            self.stands(house, made, store, place)
        self.assertIs(house.before(path), False)
        self.stands(house, made, store, 0)

    def test_the_usual_limit(self):
        store = empty_store(FOREVER)
        house = self.house(FOREVER, store)
        self.assertIs(house.until((5, 5)), False)
        self.assertEqual(house.where(), 10000)
        house.forward(5)
        self.assertIs(house.before((5, 5)), False)
        self.assertEqual(house.where(), 5)

    def test_the_place_of_the_first_step(self):
        made, store = SAMPLES[0]
        house = self.house(made, store)
        # the house stands there: until looks for a later place
        self.assertEqual(house.next_path(), (0, 0))
        self.assertIs(house.until((0, 0)), False)
        self.assertIs(house.before((0, 0)), True)
        self.assertEqual(house.where(), 0)


class Pokes(HouseTest):
    def test_variables_and_arrays(self):
        made = program([plus("a", var("b"))], declared=(("a", 0), ("b", 0), ("r", 2), ("q", 1)))
        store = store_with(made, a=1, b=2, r=(3, 4))
        house = self.house(made, store)
        for name, value in (("a", 0), ("b", 255), ("r", (0, 255)), ("a", 200), ("q", (9,)), ("r", (7, 7))):
            house.forward(1)
            self.assertIsNone(house.poke(name, value))
            store = tuple((known, value if known == name else word) for known, word in store)
            self.stands(house, made, store, 0)
        house.forward(1)
        self.stands(house, made, store, 1)
        self.assertEqual(dict(house.store())["a"], 199)
        house.back(1)
        self.stands(house, made, store, 0)

    def test_another_run(self):
        house = self.house(COUNTING, store_with(COUNTING, a=3))
        house.forward(10 ** 6)
        self.assertEqual(house.store(), (("a", 3), ("b", 3)))
        house.poke("a", 9)
        self.assertEqual((house.where(), house.ending()), (0, ("none",)))
        house.forward(10 ** 6)
        self.assertEqual(house.store(), (("a", 9), ("b", 9)))

    def test_refused(self):
        made = program([plus("a", num(1)), SKIP], declared=(("a", 0), ("r", 2)), procedures=[("p", (("x", 0),), ())])
        store = store_with(made, a=7, r=(1, 2))
        bad = [(name, 1) for name in ("b", "x", "p", "main", "", "A", None, 0, True, ("a",), ["a"])]
        bad += [("a", value) for value in (-1, 256, True, False, None, "1", 1.0, (), (1,), (1, 2), [1])]
        bad += [("r", value) for value in (0, 1, (), (1,), (1, 2, 3), [1, 2], (1, 256), (-1, 0), (1, True), (None, 1), None, "12")]
        for place in (0, 1, 2):
            house = self.house(made, store)
            house.forward(place)
            for name, value in bad:
                with self.assertRaises(StepError):
                    house.poke(name, value)
                self.stands(house, made, store, place)
            house.back(5)
            self.stands(house, made, store, 0)

    def test_widths(self):
        for width in (1, 3, 32):
            made = program([], declared=(("a", 0),), width=width)
            house = self.house(made, empty_store(made))
            house.poke("a", 2 ** width - 1)
            self.assertEqual(house.store(), (("a", 2 ** width - 1),))
            with self.assertRaises(StepError):
                house.poke("a", 2 ** width)

    def test_random_ones(self):
        for seed in range(60):
            chance = random.Random(seed)
            maker = Maker(seed)
            made = maker.program()
            store = maker.store(made)
            house = self.house(made, store)
            for _ in range(4):
                house.forward(chance.randrange(20))
                other = dict(maker.store(made))
                name = chance.choice(sorted(other))
                house.poke(name, other[name])
                store = tuple((known, other[name] if known == name else word) for known, word in store)
                self.stands(house, made, store, 0)
                place = house.forward(chance.randrange(30))
                self.stands(house, made, store, place)
