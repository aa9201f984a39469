import unittest
from itertools import combinations, product

from rankwright.matroids import fault_of
from tests import words

THREE = (2, 5, 9)
FOUR = (0, 7, 8, 199)
FIVE = (1, 3, 6, 40, 50)
EIGHT = tuple(range(10, 18))
TEN = tuple(range(10))


class ComparedTest(unittest.TestCase):

    def compared(self, kind, ground, tables):
        """Compares the faults, and returns how often each kind of fault came (None: no fault)."""
        met = {}
        for table in tables:
            wanted = words.fault(kind, ground, table)
            self.assertEqual(fault_of(kind, ground, table), wanted, (kind, ground, table))
            name = None if wanted is None else wanted[0]
            met[name] = met.get(name, 0) + 1
        return met


class BasesTest(ComparedTest):

    def test_all_families_on_up_to_three_elements(self):
        for ground in ((), (7,), (0, 199), THREE):
            met = self.compared("bases", ground, words.families(words.sets_within(ground)))
            self.assertEqual(met["empty"], 1)
        self.assertEqual(set(met), {None, "empty", "sizes"})

    def test_all_families_of_one_size(self):
        for ground, size, many in ((FOUR, 1, 15), (FOUR, 2, 36), (FIVE, 2, 171), (FIVE, 3, 171)):
            met = self.compared("bases", ground, words.families(list(combinations(ground, size))))
            self.assertEqual(met[None], many)
            self.assertEqual("exchange" in met, size > 1)

    def test_families_of_mixed_sizes(self):
        met = self.compared("bases", FOUR, words.families(words.sets_within(FOUR), step=37))
        self.assertIn("sizes", met)

    def test_examples(self):
        for bases, fault in (
                ((), ("empty",)),
                (((),), None),
                (((0,), (0, 1)), ("sizes", (0,), (0, 1))),
                (((0, 1), (0, 2), (1,), (3,)), ("sizes", (0, 1), (1,))),
                (((0, 1), (2, 3)), ("exchange", (0, 1), (2, 3), 0)),
                (((0, 1, 2), (0, 3, 4), (1, 3, 4)), ("exchange", (0, 1, 2), (0, 3, 4), 1)),
                (((0, 1), (0, 2), (0, 3), (1, 2), (1, 3)), None)):
            with self.subTest(bases=bases):
                self.assertEqual(fault_of("bases", tuple(range(5)), bases), fault)

    def test_all_grounds_up_to_ten_elements_are_let_in(self):
        self.assertIsNone(fault_of("bases", TEN, tuple(combinations(TEN, 5))))
        bases = tuple(base for base in combinations(TEN, 3) if sum(base) % 4)
        self.assertEqual(fault_of("bases", TEN, bases), words.fault("bases", TEN, bases))
        self.assertEqual(fault_of("bases", TEN, (TEN[:5], TEN[5:])), ("exchange", TEN[:5], TEN[5:], 0))


class CircuitsTest(ComparedTest):

    def test_all_families_on_up_to_three_elements(self):
        for ground in ((), (7,), (0, 199), THREE):
            met = self.compared("circuits", ground, words.families(words.sets_within(ground)))
        self.assertEqual(set(met), {None, "empty", "within", "elimination"})
        self.assertEqual(met[None], 16)

    def test_pairs_and_triples_of_four(self):
        sets = [members for members in words.sets_within(FOUR) if len(members) in (2, 3)]
        met = self.compared("circuits", FOUR, words.families(sets))
        self.assertEqual(set(met), {None, "within", "elimination"})

    def test_families_of_mixed_sizes(self):
        self.compared("circuits", FOUR, words.families(words.sets_within(FOUR), step=41))

    def test_pairs_of_five(self):
        self.compared("circuits", FIVE, words.families(list(combinations(FIVE, 2))))

    def test_examples(self):
        for circuits, fault in (
                ((), None),
                (((),), ("empty",)),
                (((), (0,), (0, 1)), ("empty",)),
                (((0, 1), (1,)), ("within", (1,), (0, 1))),
                (((0,), (0, 1)), ("within", (0,), (0, 1))),
                (((0, 1), (0, 1, 2), (0, 2)), ("within", (0, 1), (0, 1, 2))),
                (((0, 1), (0, 2)), ("elimination", (0, 1), (0, 2), 0)),
                (((0, 1, 2), (1, 2, 3)), ("elimination", (0, 1, 2), (1, 2, 3), 1)),
                (((0, 1), (0, 2), (1, 2)), None),
                (((0, 1), (2, 3)), None)):
            with self.subTest(circuits=circuits):
                self.assertEqual(fault_of("circuits", (0, 1, 2, 3), circuits), fault)

    def test_eight_elements(self):
        self.assertIsNone(fault_of("circuits", EIGHT, tuple(combinations(EIGHT, 4))))
        circuits = tuple(combinations(EIGHT, 4))[:-1]
        self.assertEqual(fault_of("circuits", EIGHT, circuits), words.fault("circuits", EIGHT, circuits))


class RanksTest(ComparedTest):

    def all_tables(self, ground, most):
        sets = words.sets_within(ground)
        for ranks in product(range(most + 1), repeat=len(sets)):
            yield dict(zip(sets, ranks))

    def test_all_tables_on_up_to_three_elements(self):
        for ground, most in (((), 3), ((7,), 3), ((0, 199), 2), (THREE, 2)):
            met = self.compared("ranks", ground, self.all_tables(ground, most))
        self.assertEqual(set(met), {None, "start", "step", "pair"})
        self.assertEqual(met[None], 15)

    def test_ranks_of_matroids_with_one_changed(self):
        for bases in words.all_bases(FOUR):
            ranks = words.ranks(FOUR, bases)
            changed = [{**ranks, members: ranks[members] + by} for members in ranks for by in (-1, 1, 2)]
            self.compared("ranks", FOUR, [ranks] + [table for table in changed if min(table.values()) >= 0])

    def test_sizes_with_some_cut_down(self):
        for numbers in product(range(5), repeat=4):
            table = {members: min(len(members), numbers[sum(members) % 4]) for members in words.sets_within(FIVE)}
            self.assertEqual(fault_of("ranks", FIVE, table), words.fault("ranks", FIVE, table))

    def test_examples(self):
        for table, fault in (
                ({(): 0, (4,): 1, (7,): 1, (4, 7): 2}, None),
                ({(): 0, (4,): 0, (7,): 0, (4, 7): 0}, None),
                ({(): 1, (4,): 0, (7,): 5, (4, 7): 0}, ("start",)),
                ({(): 0, (4,): 2, (7,): 1, (4, 7): 2}, ("step", (), 4)),
                ({(): 0, (4,): 1, (7,): 2, (4, 7): 2}, ("step", (), 7)),
                ({(): 0, (4,): 1, (7,): 1, (4, 7): 0}, ("step", (4,), 7)),
                ({(): 0, (4,): 1, (7,): 0, (4, 7): 2}, ("step", (7,), 4)),
                ({(): 0, (4,): 0, (7,): 0, (4, 7): 10 ** 50}, ("step", (4,), 7)),
                ({(): 0, (4,): 0, (7,): 0, (4, 7): 1}, ("pair", (), 4, 7))):
            with self.subTest(table=table):
                self.assertEqual(fault_of("ranks", (4, 7), table), fault)

    def test_the_order_of_the_keys_means_nothing(self):
        for bases in words.all_bases(THREE):
            ranks = words.ranks(THREE, bases)
            for changed in ranks:
                table = {**ranks, changed: ranks[changed] + 1}
                turned = {members: table[members] for members in reversed(table)}
                mixed = {members: table[members] for members in sorted(table, key=lambda x: (sum(x) % 3, x))}
                self.assertEqual(fault_of("ranks", THREE, turned), fault_of("ranks", THREE, table))
                self.assertEqual(fault_of("ranks", THREE, mixed), fault_of("ranks", THREE, table))

    def test_six_elements(self):
        six = (1, 2, 3, 50, 60, 70)
        table = {members: min(len(members), 3) for members in words.sets_within(six)}
        self.assertIsNone(fault_of("ranks", six, table))
        table[(2, 50)] = 1
        self.assertEqual(fault_of("ranks", six, table), words.fault("ranks", six, table))


class FlatsTest(ComparedTest):

    def test_all_families_on_up_to_three_elements(self):
        for ground in ((), (7,), (0, 199), THREE):
            met = self.compared("flats", ground, words.families(words.sets_within(ground)))
        self.assertEqual(set(met), {None, "ground", "meet", "cover"})
        self.assertEqual(met[None], 16)

    def test_families_on_four_elements(self):
        self.compared("flats", FOUR, words.families(words.sets_within(FOUR), step=41))

    def test_flats_of_matroids_with_one_more_or_less(self):
        for bases in words.all_bases(FOUR):
            flats = words.flats(FOUR, bases)
            changed = [tuple(sorted(set(flats) ^ {members})) for members in words.sets_within(FOUR)]
            self.compared("flats", FOUR, [flats] + changed)

    def test_examples(self):
        for flats, fault in (
                ((), ("ground",)),
                (((), (0,), (1,), (2,)), ("ground",)),
                (((0,), (0, 1, 2), (1,)), ("meet", (0,), (1,))),
                (((), (0, 1), (0, 1, 2), (0, 2)), ("meet", (0, 1), (0, 2))),
                (((), (0,), (0, 1, 2)), ("cover", (), 1)),
                (((), (0, 1), (0, 1, 2), (1,)), ("cover", (), 0)),
                (((), (0,), (0, 1), (0, 1, 2), (1,), (2,)), ("cover", (0,), 2)),
                (((0, 1, 2),), None),
                (((), (0, 1, 2)), None),
                (((), (0,), (0, 1, 2), (1, 2)), None)):
            with self.subTest(flats=flats):
                self.assertEqual(fault_of("flats", (0, 1, 2), flats), fault)

    def test_eight_elements(self):
        flats = tuple(words.sets_within(EIGHT))
        self.assertIsNone(fault_of("flats", EIGHT, flats))
        for gone in ((), (11,), (11, 12), EIGHT[:7], EIGHT):
            with self.subTest(gone=gone):
                table = tuple(flat for flat in flats if flat != gone)
                self.assertEqual(fault_of("flats", EIGHT, table), words.fault("flats", EIGHT, table))
