import copy
import random
import unittest

from heightrings.errors import HeightError, NoWeb
from heightrings.maps import pins_of, scale_of, web_of
from heightrings.thin import thinned
from heightrings.webs import meeting
from tests.samples import DEEP, Case, cuts_of, mixed_tables, spoil
from tests.thinning import made_up_tasks, what_is_wrong, which_may_go

BIG = 999999999999
GREAT = 10 ** 13
# Each of its points but the ends lies 3 off its neighbours' segment.
TENT = ("run", ((0, 0), (4, 3), (8, 0)))
SQUARE = ("ring", ((0, 0), (4, 0), (4, 4), (0, 4)))


def run(*points):
    return ("run", points)


def ring(*points):
    return ("ring", points)


CHANGES = [
    lambda x, y: (x, y), lambda x, y: (x - 70, y + 30), lambda x, y: (-y, x), lambda x, y: (-x, y),
    lambda x, y: (x, -y), lambda x, y: (-x, -y),
]


class ThinCase(Case):
    def assert_thins(self, web, bound, pins, expected):
        """A web of which but one thinned one can come, moved, turned and mirrored."""
        self.assertIsNone(what_is_wrong(web, bound, pins, expected))
        for change in CHANGES:
            changed, right = [
                [(word, tuple(change(x, y) for x, y in points)) for word, points in some] for some in (web, expected)
            ]
            moved = [change(x, y) for x, y in pins]
            before = copy.deepcopy((changed, moved))
            self.assertEqual(thinned(changed, bound, moved), right)
            self.assertEqual((changed, moved), before)
            # Told backward each line keeps the same points.
            backward = thinned([(word, points[::-1]) for word, points in changed], bound, moved)
            self.assertEqual(backward, [(word, points[::-1]) for word, points in right])

    def assert_stays(self, web, bound, pins):
        self.assert_thins(web, bound, pins, web)

    def assert_thins_well(self, web, bound, pins):
        """A web of which several thinned ones may come: the told one keeps all that is promised of it."""
        before = copy.deepcopy((web, pins))
        told = thinned(web, bound, pins)
        self.assertEqual((web, pins), before)
        self.assertIsNone(what_is_wrong(web, bound, pins, told), (web, bound, pins, told))
        return told


class BoundTest(ThinCase):
    def test_bound_nought(self):
        self.assert_stays([TENT], 0, [])
        self.assert_thins([run((0, 0), (4, 2), (8, 4))], 0, [], [run((0, 0), (8, 4))])
        self.assert_thins([run((0, 0), (1, 0), (5, 0), (9, 0), (9, 2))], 0, [], [run((0, 0), (9, 0), (9, 2))])
        self.assert_stays([run((0, 0), (BIG, 1), (2 * BIG, 0))], 0, [])

    def test_small_bounds(self):
        self.assert_stays([TENT], 1, [])
        self.assert_stays([TENT], 2, [])
        self.assert_thins([TENT], 3, [], [run((0, 0), (8, 0))])
        self.assert_thins([TENT], 4, [], [run((0, 0), (8, 0))])

    def test_a_distance_that_is_no_whole_number(self):
        # The middle lies 12 by the root of 13 off: some 3.33.
        web = [run((0, 0), (0, 4), (6, 4))]
        self.assert_stays(web, 3, [])
        self.assert_thins(web, 4, [], [run((0, 0), (6, 4))])
        # The root of 2, by little less and more than the bound.
        self.assert_stays([run((0, 0), (0, 2), (2, 2))], 1, [])
        self.assert_thins([run((0, 0), (0, 2), (2, 2))], 2, [], [run((0, 0), (2, 2))])

    def test_great_bounds(self):
        for bound in (10, 10 ** 6, 10 ** 12, 10 ** 30):
            self.assert_thins([TENT], bound, [], [run((0, 0), (8, 0))])

    def test_farther_from_the_segment_than_from_its_straight_line(self):
        # Straight on beyond the segment's end: 5 across would be 3 only.
        web = [run((0, 0), (12, 3), (8, 0))]
        self.assert_stays(web, 4, [])
        self.assert_thins(web, 5, [], [run((0, 0), (8, 0))])
        web = [run((0, 0), (-4, 3), (8, 0))]
        self.assert_stays(web, 4, [])
        self.assert_thins(web, 5, [], [run((0, 0), (8, 0))])

    def test_numbers_of_twelve_figures(self):
        web = [run((-BIG, 0), (0, 3), (BIG, 0))]
        self.assert_stays(web, 2, [])
        self.assert_thins(web, 3, [], [run((-BIG, 0), (BIG, 0))])
        web = [run((-BIG, -BIG), (0, 1), (BIG, BIG))]
        self.assert_stays(web, 0, [])
        self.assert_thins(web, 1, [], [run((-BIG, -BIG), (BIG, BIG))])
        # Off by all but nothing is not nothing.
        self.assert_stays([run((0, 0), (BIG - 1, BIG - 2), (BIG, BIG - 1))], 0, [])
        self.assert_thins(
            [ring((-BIG, -BIG), (0, -BIG), (BIG, -BIG), (BIG, BIG))], 0, [],
            [ring((-BIG, -BIG), (BIG, -BIG), (BIG, BIG))],
        )


class LineTest(ThinCase):
    def test_a_web_without_lines(self):
        self.assertEqual(thinned([], 0, []), [])
        self.assertEqual(thinned([], 5, [(1, 1)]), [])

    def test_the_ends_of_a_run_stay(self):
        self.assert_stays([run((0, 0), (1, 0))], GREAT, [])
        self.assert_stays([run((0, 0), (BIG, BIG))], GREAT, [])
        zigzag = run(*[(x, x % 3) for x in range(30)])
        self.assert_thins([zigzag], GREAT, [], [run((0, 0), (29, 2))])
        self.assert_thins([run(*[(x, x * x) for x in range(60)])], GREAT, [], [run((0, 0), (59, 59 * 59))])

    def test_three_points_of_a_ring_stay(self):
        triangle = ring((0, 0), (4, 0), (0, 4))
        self.assert_stays([triangle], 0, [])
        self.assert_stays([triangle], GREAT, [])
        self.assertEqual(len(self.assert_thins_well([SQUARE], 3, [])[0][1]), 3)
        self.assertEqual(len(self.assert_thins_well([SQUARE], GREAT, [])[0][1]), 3)
        self.assert_stays([SQUARE], 2, [])
        for many in range(3, 40):
            curve = ring(*[(x, x * x) for x in range(many)])
            self.assertEqual(len(self.assert_thins_well([curve], GREAT, [])[0][1]), 3)

    def test_the_first_and_the_last_of_a_ring_may_go(self):
        corners = ring((0, 0), (4, 0), (4, 4), (0, 4))
        self.assert_thins([ring((2, 0), (4, 0), (4, 4), (0, 4), (0, 0))], 0, [],
                          [ring((4, 0), (4, 4), (0, 4), (0, 0))])
        self.assert_thins([ring((0, 0), (4, 0), (4, 4), (0, 4), (0, 2))], 0, [], [corners])
        self.assert_thins([ring((0, 0), (2, 0), (4, 0), (4, 2), (4, 4), (2, 4), (0, 4), (0, 2))], 0, [], [corners])
        # The last two and the first two lie on one side.
        self.assert_thins([ring((3, 0), (4, 0), (4, 4), (0, 4), (0, 0), (1, 0), (2, 0))], 0, [],
                          [ring((4, 0), (4, 4), (0, 4), (0, 0))])

    def test_each_line_by_itself(self):
        web = [TENT, run((0, 10), (4, 12), (8, 10)), run((0, 20), (4, 21), (8, 20))]
        thin = [run((0, 0), (8, 0)), run((0, 10), (8, 10)), run((0, 20), (8, 20))]
        self.assert_stays(web, 0, [])
        self.assert_thins(web, 1, [], web[:2] + thin[2:])
        self.assert_thins(web, 2, [], web[:1] + thin[1:])
        self.assert_thins(web, 3, [], thin)

    def test_a_line_within_a_ring(self):
        frame = ring((0, 0), (20, 0), (20, 20), (0, 20))
        self.assert_thins([frame, run((8, 8), (10, 9), (12, 8))], 1, [], [frame, run((8, 8), (12, 8))])

    def test_a_web_that_no_point_of_may_go_is_told_as_it_is(self):
        web = [SQUARE, TENT[:1] + (tuple((x + 9, y) for x, y in TENT[1]),), ring((20, 0), (30, 0), (20, 9))]
        self.assert_stays(web, 0, [])
        told = thinned(web, 0, [])
        self.assertIsNot(told, web)


class PinTest(ThinCase):
    def assert_pinned(self, *pins):
        self.assert_stays([TENT], GREAT, list(pins))

    def assert_free(self, *pins):
        self.assert_thins([TENT], GREAT, list(pins), [run((0, 0), (8, 0))])

    def test_in_the_field(self):
        self.assert_pinned((4, 1))
        self.assert_pinned((4, 2))
        self.assert_pinned((2, 1))
        self.assert_pinned((6, 1))

    def test_on_its_side(self):
        for x in range(1, 8):
            self.assert_pinned((x, 0))

    def test_beside_it(self):
        for pin in ((4, -1), (1, 1), (7, 1), (4, 4), (-1, 0), (9, 0), (0, 1), (0, -1), (8, 1), (3, 3), (5, 3), (4, 5)):
            self.assert_free(pin)

    def test_at_its_corner(self):
        # Such pins lie on a segment, but the words of the point are plain: the corners count.
        for pin in TENT[1]:
            self.assertEqual(thinned([TENT], GREAT, [pin]), [TENT])

    def test_straight_ahead_of_a_field_that_is_but_a_segment(self):
        web = [run((0, 0), (4, 2), (8, 4))]
        self.assert_thins(web, 0, [(10, 5), (-2, -1), (4, 3), (4, 1)], [run((0, 0), (8, 4))])
        self.assert_thins([run((0, 0), (0, 2), (0, 4))], 0, [(0, 5), (0, -1), (1, 2)], [run((0, 0), (0, 4))])

    def test_one_among_many(self):
        beside = [(4, -1), (1, 1), (7, 1), (4, 4), (-1, 0), (9, 0)]
        self.assert_free(*beside)
        self.assert_pinned(*beside, (3, 1))
        self.assert_pinned((3, 1), *beside)
        self.assert_free((4, -1), (4, -1), (4, -1))

    def test_far_off_ones(self):
        self.assert_free((10 ** 30, 0), (0, -(10 ** 30)), (10 ** 30, 10 ** 30))

    def test_each_pin_holds_its_own_line(self):
        web = [TENT, run((0, 10), (4, 13), (8, 10))]
        self.assert_thins(web, 3, [(4, 11)], [run((0, 0), (8, 0)), web[1]])
        self.assert_thins(web, 3, [(4, 1)], [TENT, run((0, 10), (8, 10))])

    def test_a_ring_round_a_pin(self):
        # Whatever goes first, what stays goes round the pin.
        wheel = ring((5, 0), (4, 3), (3, 4), (0, 5), (-3, 4), (-4, 3), (-5, 0), (-4, -3), (-3, -4), (0, -5), (3, -4),
                     (4, -3))
        for pins in ([], [(0, 0)], [(0, 0), (1, 0)], [(3, 0), (-3, 0), (0, 3), (0, -3)], [(9, 9), (-4, 0)]):
            for bound in (0, 1, 2, 4, 8, 100):
                self.assert_thins_well([wheel], bound, pins)


class OtherPointTest(ThinCase):
    def test_of_another_line(self):
        for inner in ((4, 1), (4, 2), (2, 1), (4, 0), (1, 0)):
            hook = run((inner[0], -9), inner)
            self.assert_stays([TENT, hook], GREAT, [])
            self.assert_stays([hook, TENT], GREAT, [])
            self.assert_stays([TENT, run(inner, (inner[0], -9))], GREAT, [])

    def test_of_another_line_beside_the_field(self):
        thin = run((0, 0), (8, 0))
        for near, far in (((4, -1), (4, -9)), ((4, 4), (4, 9)), ((9, 0), (9, 9)), ((-1, 0), (-9, 0)), ((7, 1), (9, 9))):
            for other in (run(near, far), run(far, near)):
                self.assert_thins([TENT, other], GREAT, [], [thin, other])
                self.assert_thins([other, TENT], GREAT, [], [other, thin])

    def test_a_ring_in_the_field(self):
        small = ring((3, 1), (5, 1), (4, 2))
        self.assert_stays([TENT, small], GREAT, [])
        self.assert_stays([small, TENT], GREAT, [])

    def test_of_the_same_line(self):
        # The end comes back into the first bend, and alone holds it; pins hold all others.
        pins = [(7, -1), (7, -5), (5, -5)]
        ahead, behind = ((0, 0), (4, 6)), ((8, 0), (8, -6), (4, -6))
        for end in ((4, 1), (4, 0), (3, 4)):
            self.assert_stays([run(*ahead, *behind, end)], GREAT, pins)
        self.assert_thins([run(*ahead, *behind, (4, -1))], GREAT, pins, [run((0, 0), *behind, (4, -1))])

    def test_the_same_line_holds_itself(self):
        # The second bend would be cut by what the first becomes, and the other way round.
        spiral = run((0, 0), (10, 0), (10, 10), (2, 10), (2, 3), (7, 3), (7, 7))
        for bound in range(12):
            told = self.assert_thins_well([spiral], bound, [])
            self.assertIsNone(meeting(told))

    def test_points_that_have_gone_hold_no_more(self):
        # The lesser tent's top lies in the greater one's field, till it has gone.
        web = [run((0, 0), (10, 9), (20, 0)), run((1, -1), (10, 1), (19, -1))]
        self.assertEqual(which_may_go(web, web, GREAT, []), [(10, 1)])
        self.assert_thins(web, GREAT, [], [run((0, 0), (20, 0)), run((1, -1), (19, -1))])
        self.assert_thins(web[::-1], GREAT, [], [run((1, -1), (19, -1)), run((0, 0), (20, 0))])

    def test_a_row_of_tents_within_one_another(self):
        web = [run((k, -k), (20, 30 - 3 * k), (40 - k, -k)) for k in range(9)]
        thin = [run((k, -k), (40 - k, -k)) for k in range(9)]
        self.assert_thins(web, GREAT, [], thin)
        self.assert_thins(web[::-1], GREAT, [], thin[::-1])
        # A pin under the last one holds them all.
        self.assert_stays(web, GREAT, [(20, -1)])
        self.assert_thins(web, GREAT, [(20, -9)], thin)


class LeftOutTest(ThinCase):
    def test_a_point_left_out_earlier_would_lie_too_far_off(self):
        # The first bend lies within 3, may go, and then would lie 4 off; the pin holds the second one till then.
        web = [run((0, 0), (5, 4), (10, 2), (20, 0))]
        self.assert_stays(web, 2, [(11, 2)])
        self.assert_thins(web, 3, [(11, 2)], [run((0, 0), (10, 2), (20, 0))])
        self.assert_thins(web, 4, [(11, 2)], [run((0, 0), (20, 0))])

    def test_and_so_it_is_in_a_ring(self):
        # Two pins hold the corners beneath, at whatever point the ring begins.
        points = [(0, 0), (5, 4), (10, 2), (20, 0), (20, -50), (0, -50)]
        pins = [(11, 2), (1, -1), (19, -1), (1, -49), (19, -49)]
        for at in range(6):
            def begun_at(some):
                kept = [point for point in points[at:] + points[:at] if point in some]
                return [ring(*kept)]
            self.assert_stays(begun_at(points), 2, pins)
            self.assert_thins(begun_at(points), 3, pins, begun_at(points[:1] + points[2:]))
            self.assert_thins(begun_at(points), 4, pins, begun_at(points[:1] + points[3:]))

    def test_a_curve_is_kept_within_the_bound(self):
        for far in (2, 5, 9, 30):
            curve = run(*[(4 * x, x * x) for x in range(far)])
            for bound in range(0, 12):
                self.assert_thins_well([curve], bound, [])

    def test_a_slow_bend_never_goes_off_by_small_steps(self):
        # Each point lies within 1 of its neighbours' segment, though the bend as a whole is far off.
        bend = run(*[(10 * x, x * (19 - x)) for x in range(20)])
        self.assertEqual(len(which_may_go([bend], [bend], 1, [])), 18)
        told = self.assert_thins_well([bend], 1, [])
        self.assertGreater(len(told[0][1]), 4)
        wheel = ring(*[(x * 10, x * (19 - x)) for x in range(20)] + [(10 * x, -x * (19 - x)) for x in range(18, 0, -1)])
        told = self.assert_thins_well([wheel], 1, [])
        self.assertGreater(len(told[0][1]), 6)

    def test_left_out_over_the_end_of_a_ring(self):
        # The bend lies round the place where the ring begins.
        points = [(10 * x, x * (19 - x)) for x in range(20)] + [(95, -900)]
        for at in range(len(points)):
            told = self.assert_thins_well([ring(*points[at:] + points[:at])], 1, [])
            self.assertGreater(len(told[0][1]), 5)

    def test_a_left_out_point_beyond_the_segment_s_end(self):
        # Out and back: the far end lies straight on, but farther than the bound from where the segment ends.
        spike = run((0, 0), (10, 1), (20, 0), (10, -1))
        self.assert_thins_well([spike], 1, [])
        self.assert_thins_well([spike], 9, [])
        self.assert_thins_well([spike], 10, [])
        self.assert_thins_well([spike], 11, [])


class NoWebTest(ThinCase):
    def assert_refuses(self, web, at):
        before = copy.deepcopy(web)
        for bound, pins in ((0, []), (GREAT, [(4, 1)]), (1, [(0, 0)])):
            with self.assertRaises(NoWeb) as caught:
                thinned(web, bound, pins)
            self.assertEqual(caught.exception.at, at)
            self.assertIsInstance(caught.exception, HeightError)
        self.assertEqual(meeting(web), at)
        self.assertEqual(web, before)

    def test_what_is_not_clean(self):
        self.assert_refuses([run((0, 0), (4, 4)), run((0, 4), (4, 0))], (0, 0, 1, 0))
        self.assert_refuses([SQUARE, run((2, 2), (9, 2))], (0, 1, 1, 0))
        self.assert_refuses([run((3, 3), (3, 3))], (0, 0, 0, 0))
        self.assert_refuses([run((0, 0), (4, 0), (2, 0))], (0, 0, 0, 1))
        self.assert_refuses([SQUARE, SQUARE], (0, 0, 1, 0))
        self.assert_refuses([ring((0, 0), (4, 4), (4, 0), (0, 4))], (0, 0, 0, 2))
        self.assert_refuses([TENT, run((9, 9), (12, 12)), run((9, 12), (12, 9), (20, 20))], (1, 0, 2, 0))

    def test_a_line_of_a_table_told_once_more(self):
        web = web_of(DEEP, [0])
        self.assert_refuses(web + web[-1:], (len(web) - 1, 0, len(web), 0))
        self.assert_refuses(web_of([[0, 3], [0, 0]], [1, 0, 1]), (0, 0, 2, 0))


class ManyWebsTest(ThinCase):
    def test_made_up_ones(self):
        thinner = stayed = 0
        for web, bound, pins in made_up_tasks(700, 41):
            self.assertLessEqual(sum(len(points) for _, points in web), 60)
            told = self.assert_thins_well(web, bound, pins)
            thinner += told != web
            stayed += told == web
            # What is thinned is clean, so it may be handed in again.
            self.assert_thins_well(told, bound, pins)
        self.assertGreater(thinner, 300)
        self.assertGreater(stayed, 30)

    def test_webs_of_tables_with_their_pins(self):
        source = random.Random(42)
        for rows in list(mixed_tables(90, 43, range(-9, 12))) + list(mixed_tables(60, 44, range(3))):
            rows = [row[:4] for row in rows[:4]]
            cuts = source.sample(cuts_of(rows), min(source.randint(1, 3), len(cuts_of(rows))))
            web = web_of(rows, cuts)
            scale = scale_of(rows)
            if sum(len(points) for _, points in web) <= 60:
                for bound in (0, scale // 5, scale, 9 * scale):
                    self.assert_thins_well(web, bound, pins_of(rows))

    def test_told_ones_of_great_tables(self):
        # Nothing is promised of their thinning, but it isn't refused.
        rows = next(mixed_tables(1, 45, range(9)))
        rows = [(row * 7)[:7] for row in (rows * 7)[:7]]
        web = web_of(rows, [2, 4, 6])
        self.assertGreater(sum(len(points) for _, points in web), 60)
        self.assert_thins_well(web, scale_of(rows) // 3, pins_of(rows))


class AskTest(ThinCase):
    def test_told_lists_are_the_asker_s_own(self):
        web = [TENT, SQUARE[:1] + (tuple((x + 20, y) for x, y in SQUARE[1]),)]
        pins = [(40, 40), (4, 1)]
        for bound in (0, 3, GREAT):
            told = thinned(web, bound, pins)
            kept = copy.deepcopy(told)
            spoil(told)
            self.assertEqual(thinned(web, bound, pins), kept)
            self.assertEqual(thinned(copy.deepcopy(web), bound, list(pins)), kept)

    def test_kinds(self):
        told = thinned([TENT, ring((20, 0), (22, 0), (24, 0), (20, 9))], 0, [])
        self.assertIsInstance(told, list)
        for line in told:
            self.assertIsInstance(line, tuple)
            self.assertIsInstance(line[1], tuple)
            self.assertTrue(all(isinstance(point, tuple) for point in line[1]))

    def test_told_the_same_whatever_is_asked_in_between(self):
        web = [run((0, 0), (10, 9), (20, 0)), run((1, -1), (10, 1), (19, -1))]
        first = thinned(web, 4, [(10, 4)])
        with self.assertRaises(NoWeb):
            thinned([SQUARE, SQUARE], 0, [])
        thinned(web, GREAT, [])
        thinned([SQUARE], 4, [(10, 4)])
        self.assertEqual(thinned(web, 4, [(10, 4)]), first)


if __name__ == "__main__":
    unittest.main()
