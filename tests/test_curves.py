import itertools
import unittest

from cases import PRIMES, WRONG, Case, bent, drawing, drawn_form, row_in, state_of
from freetops.across import across
from freetops.curves import Curve, standard
from freetops.division import divides, divisor_of
from freetops.errors import InvalidNumber, InvalidPoint, InvalidRow, InvalidTable, NotOff, NotPrime, NotWhole, Singular, Still
from freetops.forms import add, form_of, multiply, scaled, subtract, value_at
from freetops.rows import product_of
from freetops.spans import Span

CURVE = Curve(7, [(6, 0, 1), (0, 6, 0, 1), (1,)])
# values that are no points of a curve with three forms for the prime 7
NO_POINTS = [*WRONG, 0, (), (0, 0, 0), (1,), (1, 2), (1, 2, 3, 4), [1, 0, 0], (7, 0, 1), (-1, 0, 1), (True, 0, 0), (1, False, 0),
             (None, 1, 1), ((1,), 0, 0), ((), (), (1,)), (1, 0, 10 ** 5000), "111"]


def state(curve):
    return repr(curve), curve.prime, curve.forms, curve.degree


def drawn_curve(draw, primes=tuple(PRIMES), places=None, degree=5):
    while True:
        prime = draw.choice(primes)
        forms = [drawn_form(draw, prime, degree) for _ in range(places or draw.randrange(2, 7))]
        if divisor_of(prime, forms) == (1,) and max(len(form) for form in forms) > 1:
            return Curve(prime, forms)


def at_by_definition(curve, time):
    if time is None:
        return tuple((list(form) + [0] * 50)[curve.degree] for form in curve.forms)
    return tuple(value_at(curve.prime, form, time) for form in curve.forms)


def times_of(curve):
    return [*range(curve.prime), None]


def are_same(prime, one, other):
    return any(tuple(number * residue % prime for residue in one) == other for number in range(1, prime))


def crosses(curve, point):
    p, forms = curve.prime, curve.forms
    return [subtract(p, scaled(p, forms[i], point[j]), scaled(p, forms[j], point[i]))
            for i, j in itertools.combinations(range(len(forms)), 2)]


def visits_by_definition(curve, point):
    """By dividing all cross forms by x - c as long as all of them can be divided."""
    found = []
    forms = crosses(curve, point)
    for time in range(curve.prime):
        many, power = 0, (-time % curve.prime, 1)
        while all(divides(curve.prime, power, form) for form in forms):
            many, power = many + 1, multiply(curve.prime, power, (-time % curve.prime, 1))
        if many:
            found.append((time, many))
    late = curve.degree - max(len(form) - 1 for form in forms if form)
    return found + [(None, late)] * (late > 0)


class Curves(Case):
    def test_example(self):
        self.same([CURVE.lines().heights, CURVE.visits((0, 0, 1)), CURVE.visits((0, 1, 0)), CURVE.meeting_form((1, 1, 1))],
                  [(1, 2), [(1, 1), (6, 1)], [(None, 1)], (1,)])
        self.same([CURVE.degree, CURVE.visits((3, 6, 1)), CURVE.visits((1, 1, 1)), CURVE.visits(point=(0, 0, 5))],
                  [3, [(2, 1)], [], [(1, 1), (6, 1)]])
        self.same([CURVE.point_at(1), CURVE.point_at(6), CURVE.point_at(2), CURVE.point_at(None), CURVE.crossings()],
                  [(0, 0, 1), (0, 0, 1), (3, 6, 1), (0, 1, 0), [((0, 0, 1), [(1, 1), (6, 1)])]])

    def test_attributes(self):
        forms = [(6, 0, 1), (1,)]
        curve = Curve(prime=7, forms=forms)
        forms.append((1,))
        self.same(state(curve), ("Curve(p 7, degree 2)", 7, ((6, 0, 1), (1,)), 2))
        self.same(state(Curve(7, ((6, 0, 1), (1,)))), state(curve))
        self.same([repr(CURVE), bool(CURVE), repr(Curve(97, [(0, 96), (1,)]))], ["Curve(p 7, degree 3)", True, "Curve(p 97, degree 1)"])

    def test_points(self):
        draw = drawing(601)
        for _ in range(60):
            curve = drawn_curve(draw)
            for time in times_of(curve):
                self.same(curve.point_at(time=time), at_by_definition(curve, time))
                self.assertTrue(any(curve.point_at(time)))
        for value in [*WRONG[1:], -1, 7, 10 ** 5000, (1,)]:
            self.raises(InvalidNumber, {"value": value}, CURVE.point_at, value)
        self.raises(InvalidNumber, {"value": True}, Curve(2, [(0, 1), (1,)]).point_at, True)

    def test_lines(self):
        draw = drawing(602)
        for _ in range(60):
            curve = drawn_curve(draw)
            lines = curve.lines()
            self.same([lines.prime, lines.lifts, lines.rank, sum(lines.heights)],
                      [curve.prime, (0,) * len(curve.forms), len(curve.forms) - 1, curve.degree])
            self.same(product_of(curve.prime, row_in(draw, lines), curve.forms), ())
            self.same(state_of(lines), state_of(across(Span(curve.prime, lines.lifts, [curve.forms]))))

    def test_visits_at_all_points(self):
        draw = drawing(603)
        seen = {"infinity": 0, "never": 0, "twice": 0, "roots of none": 0}
        for at in range(60):
            curve = drawn_curve(draw, (2, 3, 5), 2 if at % 3 == 0 else 3, 4)
            for point in itertools.product(range(curve.prime), repeat=len(curve.forms)):
                if not any(point):
                    continue
                found = curve.visits(point)
                self.same(found, visits_by_definition(curve, point))
                wanted = [time for time in times_of(curve) if are_same(curve.prime, curve.point_at(time), point)]
                self.same([time for time, _ in found], wanted)
                meeting = curve.meeting_form(point)
                self.same(meeting, divisor_of(curve.prime, crosses(curve, point)))
                seen["infinity"] += None in wanted
                seen["never"] += not wanted
                seen["twice"] += sum(many for _, many in found) > 1
                seen["roots of none"] += len(meeting) > 1 and not [time for time in wanted if time is not None]
        self.assertGreater(min(seen.values()), 10)

    def test_meeting_forms_by_lines(self):
        draw = drawing(604)
        for _ in range(80):
            curve = drawn_curve(draw)
            point = curve.point_at(draw.choice(times_of(curve)))
            if draw.random() < 0.4:
                point = tuple(draw.randrange(curve.prime) for _ in point)
            if not any(point):
                continue
            constants = tuple(form_of(curve.prime, [residue]) for residue in point)
            lines = curve.lines()
            products = [product_of(curve.prime, row, constants) for row in lines.key()]
            self.same(curve.meeting_form(point=point), divisor_of(curve.prime, products))
            late = min(height - len(form) + 1 for height, form in zip(lines.heights, products) if form)
            self.same(dict(curve.visits(point)).get(None, 0), late)

    def test_multipliers_multiply_out(self):
        draw = drawing(605)
        seen = {"off": 0, "on": 0, "off, but at infinity": 0}
        for _ in range(150):
            curve = drawn_curve(draw)
            point = tuple(draw.randrange(curve.prime) for _ in curve.forms)
            if draw.random() < 0.5:
                point = curve.point_at(draw.choice([None, draw.randrange(curve.prime)]))
            if not any(point):
                continue
            meeting = curve.meeting_form(point)
            if meeting != (1,):
                self.raises(NotOff, {"meeting": meeting}, curve.multipliers, point)
                seen["on"] += 1
                continue
            found = curve.multipliers(point=point)
            constants = tuple(form_of(curve.prime, [residue]) for residue in point)
            total = ()
            for form, row in zip(found, curve.lines().key(), strict=True):
                total = add(curve.prime, total, multiply(curve.prime, form, product_of(curve.prime, row, constants)))
            self.same([total, isinstance(found, tuple)], [(1,), True])
            self.same(Curve(curve.prime, list(curve.forms)).multipliers(point), found)
            seen["off"] += 1
            seen["off, but at infinity"] += bool(curve.visits(point))
        self.assertGreater(min(seen.values()), 10)

    def test_a_point_off_the_curve_at_infinity(self):
        self.same([CURVE.meeting_form((0, 1, 0)), CURVE.visits((0, 1, 0)), len(CURVE.multipliers((0, 1, 0)))], [(1,), [(None, 1)], 2])
        self.raises(NotOff, {"meeting": (6, 0, 1)}, CURVE.multipliers, (0, 0, 1))
        # it comes close to infinity three times
        curve = Curve(5, [(1,), (0, 0, 0, 1)])
        self.same([curve.visits((0, 3)), curve.visits((1, 0)), curve.point_at(None)], [[(None, 3)], [(0, 3)], (0, 1)])

    def test_crossings(self):
        draw = drawing(606)
        several = 0
        for _ in range(60):
            curve = drawn_curve(draw, (2, 3, 5, 7), 3, 6)
            points = [point for point in itertools.product(range(curve.prime), repeat=3)
                      if any(point) and next(residue for residue in point if residue) == 1]
            wanted = [(point, curve.visits(point)) for point in sorted(points)]
            wanted = [(point, visits) for point, visits in wanted if sum(many for _, many in visits) >= 2]
            self.same(curve.crossings(), wanted)
            several += len(wanted) > 1
        self.assertGreater(several, 10)
        self.same([Curve(97, [(0, 1), (1,)]).crossings(), Curve(5, [(0, 0, 1), (1,)]).crossings()],
                  [[], [((0, 1), [(0, 2)]), ((1, 0), [(None, 2)]), ((1, 1), [(1, 1), (4, 1)]), ((1, 4), [(2, 1), (3, 1)])]])

    def test_six_forms_and_degree_1(self):
        line = Curve(97, [(1,), (0, 1), (3, 5), (), (96, 96), (7,)])
        self.same([line.degree, line.lines().heights, line.crossings(), line.visits(line.point_at(50))],
                  [1, (0, 0, 0, 0, 1), [], [(50, 1)]])
        self.same([line.visits((1, 0, 0, 0, 0, 0)), len(line.multipliers((1, 0, 0, 0, 0, 0)))], [[], 5])
        two = Curve(2, [(0, 1), (1,)])
        self.same([[two.visits(point) for point in ((0, 1), (1, 1), (1, 0))], two.lines().key()],
                  [[[(0, 1)], [(1, 1)], [(None, 1)]], [((1,), (0, 1))]])

    def test_high_degrees(self):
        draw = drawing(607)
        curve = Curve(97, [tuple(draw.randrange(97) for _ in range(40)) + (1,) for _ in range(6)])
        self.same([curve.degree, sum(curve.lines().heights)], [40, 40])
        self.same(curve.visits(curve.point_at(13))[0], (13, 1))

    def test_wrong_points(self):
        before = state(CURVE)
        for value in NO_POINTS:
            for call in (CURVE.meeting_form, CURVE.visits, CURVE.multipliers):
                self.raises(InvalidPoint, {"at": 0}, call, value)
        for value in bent((0, 1, 0)):
            if isinstance(value, tuple) and len(value) == 3 and all(type(item) is int and 0 <= item < 7 for item in value) and any(value):
                continue
            self.raises(InvalidPoint, {"at": 0}, CURVE.visits, value)
        self.same(state(CURVE), before)


class Others(Case):
    def table_of(self, draw, prime, places):
        while True:
            table = [tuple(draw.randrange(prime) for _ in range(places)) for _ in range(places)]
            try:
                Curve(prime, [(0, 1), (1,)] + [()] * (places - 2)).turned(table)
                return table
            except Singular:
                pass

    def test_turned(self):
        draw = drawing(611)
        for _ in range(40):
            curve = drawn_curve(draw)
            places = len(curve.forms)
            table = self.table_of(draw, curve.prime, places)
            found = curve.turned(table=table)
            for time in times_of(curve):
                point = curve.point_at(time)
                wanted = tuple(sum(point[i] * table[i][j] for i in range(places)) % curve.prime for j in range(places))
                self.same(found.point_at(time), wanted)
                self.same(found.visits(wanted), curve.visits(point))
            self.same([found.degree, found.lines().heights], [curve.degree, curve.lines().heights])
            self.same(state(curve.turned(tuple(table))), state(found))
        self.same(CURVE.turned([(0, 1, 0), (0, 0, 1), (1, 0, 0)]).forms, ((1,), (6, 0, 1), (0, 6, 0, 1)))
        self.same(CURVE.turned([(1, 0, 0), (0, 1, 0), (0, 0, 1)]) == CURVE, True)

    def test_wrong_tables(self):
        right = [(1, 0, 0), (0, 1, 0), (0, 0, 1)]
        for value in [None, True, 0, "111", "", Span(5, (0,)), (), [], right[:2], right + [(1, 1, 1)], ((1,),)]:
            self.raises(InvalidTable, {"at": -1}, CURVE.turned, value)
        for value in [*WRONG, 0, (), (1, 2), (1, 2, 3, 4), [1, 0, 0], (7, 0, 1), (-1, 0, 1), (True, 0, 0), (1, False, 0), (None, 1, 1),
                      ((1,), (), ())]:
            self.raises(InvalidTable, {"at": 1}, CURVE.turned, [(1, 0, 0), value, None])
            self.raises(InvalidTable, {"at": 0}, CURVE.turned, (value, (0, 0, 0), (0, 0, 0)))
        for table in ([(0, 0, 0)] * 3, [(1, 2, 3), (2, 4, 6), (0, 0, 1)], [(1, 0, 0), (0, 1, 0), (1, 1, 0)]):
            self.raises(Singular, {}, CURVE.turned, table)

    def test_backward(self):
        draw = drawing(612)
        for _ in range(40):
            curve = drawn_curve(draw)
            found = curve.backward()
            self.same([found.degree, found.lines().heights], [curve.degree, curve.lines().heights])
            for time in times_of(curve):
                other = 0 if time is None else None if time == 0 else pow(time, -1, curve.prime)
                self.assertTrue(are_same(curve.prime, curve.point_at(time), found.point_at(other)))
                self.same(dict(found.visits(curve.point_at(time)))[other], dict(curve.visits(curve.point_at(time)))[time])
            self.same(found.backward() == curve, True)
        self.same(CURVE.backward().forms, ((0, 1, 0, 6), (1, 0, 6), (0, 0, 0, 1)))

    def test_begun_at(self):
        draw = drawing(613)
        for _ in range(40):
            curve = drawn_curve(draw)
            by = draw.randrange(curve.prime)
            found = curve.begun_at(by=by)
            for time in range(curve.prime):
                self.same(found.point_at(time), curve.point_at((time + by) % curve.prime))
            self.same([found.point_at(None), found.degree], [curve.point_at(None), curve.degree])
            self.same(found.begun_at(-by % curve.prime) == curve, True)
        self.same(CURVE.begun_at(1).forms, ((0, 2, 1), (0, 2, 3, 1), (1,)))

    def test_standard_points(self):
        self.same([standard(7, (0, 3, 6)), standard(7, (1, 3, 6)), standard(prime=5, point=(0, 0, 4)), standard(2, (1,))],
                  [(0, 1, 2), (1, 3, 6), (0, 0, 1), (1,)])
        for prime in (2, 3, 5):
            for point in itertools.product(range(prime), repeat=3):
                if any(point):
                    found = standard(prime, point)
                    self.assertTrue(are_same(prime, point, found))
                    self.same(next(residue for residue in found if residue), 1)

    def test_equality(self):
        self.same([CURVE == Curve(7, CURVE.forms), CURVE != Curve(7, list(CURVE.forms))], [True, False])
        for value in [*WRONG, CURVE.forms, Curve(11, CURVE.forms), Curve(7, CURVE.forms[::-1]), Curve(7, CURVE.forms + ((),)),
                      Curve(7, [scaled(7, form, 2) for form in CURVE.forms]), repr(CURVE), CURVE.lines()]:
            self.same([CURVE == value, CURVE != value, value == CURVE], [False, True, False])


class WrongCurves(Case):
    def test_errors_in_their_order(self):
        for value in [*WRONG, 0, -5, 4, 101, 10 ** 5000]:
            self.raises(NotPrime, {"value": value}, Curve, value, None)
        for value in [*WRONG, 0, (), [()], [(0, 1)], ((0, 1),), [(0, 1), (1, 0)], [(0, 1), (7,)], [(0, 1), [1]], [(0, 1), None],
                      [(True,), (0, 1)], [(0, 1), (0, False, 1)], [(0, 1), 1], ((), (0, 0)), "11", [(2,), (-1,)]]:
            self.raises(InvalidRow, {"at": 0}, Curve, 7, value)
        for forms, divisor in (([(), ()], ()), ([(0, 2), ()], (0, 1)), ([(0, 1), (0, 0, 3)], (0, 1)), ([(6, 0, 1), (2, 2)], (1, 1))):
            self.raises(NotWhole, {"divisor": divisor}, Curve, 7, forms)
        for forms in ([(1,), (1,)], [(), (3,)], ((2,), (), ())):
            self.raises(Still, {}, Curve, 7, forms)


if __name__ == "__main__":
    unittest.main()
