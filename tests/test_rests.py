import unittest

from cases import WRONG, Case, drawing, drawn_row, full_span
from freetops.errors import InvalidNumber, InvalidRow, LowRank, TooMany
from freetops.forms import form_of, raised
from freetops.rests import number_of_rest, power_rest, rest_at, rests
from freetops.rows import add_rows, height_of, row_times, zero_row
from freetops.spans import Span, all_rows

SPAN = Span(5, (0, 0), [((0, 1), (3,)), ((2,), (0, 1))])
LINE = Span(5, (0, 0), [((0, 1), (0, 1))])


class Numbers(Case):
    def test_numbers_of_rests(self):
        self.same([rest_at(SPAN, n) for n in (0, 1, 4, 5, 7, 24)],
                  [((), ()), ((1,), ()), ((4,), ()), ((), (1,)), ((2,), (1,)), ((4,), (4,))])
        self.same(number_of_rest(SPAN, ((2,), (1,))), 7)
        # the lead 1 stands in the first key row, but place 0 has the lowest figures
        span = Span(3, (0, -5), [((0, 0, 1), ()), ((), (0, 1))])
        self.same(span.leads(), [1, 0])
        self.same([rest_at(span, n) for n in (1, 3, 9, 26)],
                  [((1,), ()), ((0, 1), ()), ((), (1,)), ((2, 2), (2,))])
        self.same([rest_at(span=span, number=5), number_of_rest(span=span, rest=((2, 1), ()))], [((2, 1), ()), 5])

    def test_figures_by_their_definition(self):
        draw = drawing(111)
        for _ in range(60):
            span = full_span(draw)
            number = draw.randrange(span.prime ** span.size)
            rest = rest_at(span, number)
            degrees = dict((lead, len(row[lead]) - 1) for row, lead in zip(span.key(), span.leads()))
            figures = [form[at] if at < len(form) else 0 for place, form in enumerate(rest) for at in range(degrees[place])]
            self.assertEqual(len(figures), span.size)
            self.assertEqual(sum(figure * span.prime ** at for at, figure in enumerate(figures)), number)
            self.same(span.rest_of(rest), rest)
            self.same(number_of_rest(span, rest), number)

    def test_size_0(self):
        span = all_rows(2, (0, 3))
        self.same([rest_at(span, 0), number_of_rest(span, ((), ())), list(rests(span))], [((), ()), 0, [((), ())]])
        self.raises(InvalidNumber, {"value": 1}, rest_at, span, 1)
        self.raises(InvalidRow, {"at": 0}, number_of_rest, span, ((1,), ()))

    def test_wrong_numbers(self):
        for value in [*WRONG, (), -1, 25, 10 ** 5000, -10 ** 5000]:
            self.raises(InvalidNumber, {"value": value}, rest_at, SPAN, value)

    def test_numbers_of_any_length(self):
        span = Span(97, (0, 0, 0), [((0,) * 40 + (1,), (), ()), ((), (0,) * 40 + (1,), ()), ((), (), (0,) * 40 + (1,))])
        most = 97 ** 120 - 1
        rest = ((96,) * 40,) * 3
        self.same([rest_at(span, most), number_of_rest(span, rest)], [rest, most])
        self.raises(InvalidNumber, {"value": most + 1}, rest_at, span, most + 1)
        draw = drawing(112)
        number = draw.randrange(most)
        self.same(number_of_rest(span, rest_at(span, number)), number)

    def test_wrong_rests(self):
        for value in [*WRONG, (), 0, ((0, 1), ()), ((), (0, 1)), ((1,),), ((1,), (1,), ()), ((1,), (5,)), [(1,), ()],
                      ((1,), (True,)), ((1,), (1, 0))]:
            self.raises(InvalidRow, {"at": 0}, number_of_rest, SPAN, value)

    def test_low_rank_comes_first(self):
        for span in (LINE, Span(5, (0,)), Span(2, (0, 0), [((), ())])):
            worth = {"rank": span.rank}
            self.raises(LowRank, worth, rest_at, span, None)
            self.raises(LowRank, worth, number_of_rest, span, None)
            self.raises(LowRank, worth, power_rest, span, None, None)
            self.raises(LowRank, worth, next, rests(span))


class Listing(Case):
    def test_rests_are_listed_by_their_numbers(self):
        found = list(rests(SPAN))
        self.same(found, [(form_of(5, [a]), form_of(5, [b])) for b in range(5) for a in range(5)])
        draw = drawing(113)
        for prime in (2, 3, 5):
            span = full_span(draw, (prime,), 1, 2)
            found = list(rests(span=span))
            self.assertEqual(len(found), prime ** span.size)
            self.assertEqual(len(set(found)), len(found))
            self.assertEqual([number_of_rest(span, rest) for rest in found], list(range(len(found))))

    def test_too_many(self):
        twelve = Span(2, (0,), [((0,) * 12 + (1,),)])
        thirteen = Span(2, (0,), [((0,) * 13 + (1,),)])
        self.assertEqual(sum(1 for _ in rests(twelve)), 4096)
        listing = rests(thirteen)
        self.raises(TooMany, {"free": 13}, next, listing)
        self.raises(TooMany, {"free": 2}, next, rests(Span(97, (0,), [((0, 0, 1),)])))
        self.raises(TooMany, {"free": 1000}, next, rests(Span(97, (0,), [((0,) * 1000 + (1,),)])))
        self.assertEqual(len(list(rests(Span(97, (0,), [((0, 1),)])))), 97)


class Powers(Case):
    def test_small_powers(self):
        draw = drawing(114)
        for _ in range(40):
            span = full_span(draw)
            row = drawn_row(draw, span.prime, span.places, 5)
            for number in (0, 1, 2, 3, 7, 40):
                moved = tuple(raised(form, number) for form in row)
                self.same(power_rest(span, number, row), span.rest_of(moved))

    def test_great_powers_in_parts(self):
        draw = drawing(115)
        for _ in range(15):
            span = full_span(draw)
            row = drawn_row(draw, span.prime, span.places, 5)
            one = draw.randrange(10 ** 30)
            far = power_rest(span, 10 ** 30, row)
            self.same(power_rest(span, one, power_rest(span, 10 ** 30 - one, row)), far)
            self.same(span.rest_of(far), far)
            self.same(power_rest(span, 10 ** 30, span.rest_of(row)), far)

    def test_powers_add_up(self):
        draw = drawing(116)
        span = full_span(draw, (97,), 3, 3)
        one, other = (drawn_row(draw, 97, 3, 4) for _ in range(2))
        number = draw.randrange(10 ** 30)
        total = add_rows(97, power_rest(span, number, one), power_rest(span, number, other))
        self.same(power_rest(span=span, number=number, row=add_rows(97, one, other)), total)

    def test_edges(self):
        self.same([power_rest(SPAN, 0, ((), ())), power_rest(SPAN, 10 ** 30, ((), ()))], [((), ())] * 2)
        self.same(power_rest(SPAN, 4, ((1,), ())), ((1,), ()))
        # x ** 2 is 1 modulo this span, so the powers repeat
        self.same([power_rest(SPAN, 10 ** 30, ((1,), (2,))), power_rest(SPAN, 10 ** 30 - 1, ((1,), ()))],
                  [((1,), (2,)), SPAN.rest_of(((0, 1), ()))])
        self.same(power_rest(all_rows(2, (0, 0)), 10 ** 30, ((1,), (1,))), zero_row(2))
        nil = Span(5, (0,), [((0, 0, 0, 1),)])
        self.same([power_rest(nil, 2, ((1,),)), power_rest(nil, 3, ((1,),))], [((0, 0, 1),), ((),)])

    def test_wrong_values(self):
        for value in [*WRONG, (), -1, 10 ** 30 + 1, 10 ** 5000]:
            self.raises(InvalidNumber, {"value": value}, power_rest, SPAN, value, None)
        for value in [*WRONG, (), 0, ((1,),), ((1,), (1,), ()), ((1,), (5,)), [(1,), ()], ((1,), (True,))]:
            self.raises(InvalidRow, {"at": 0}, power_rest, SPAN, 3, value)

    def test_a_row_of_any_height(self):
        row = row_times(5, ((1,), (1,)), (1,) * 200)
        self.assertGreater(height_of(row, (0, 0)), 100)
        self.same(power_rest(SPAN, 1, row), SPAN.rest_of(row_times(5, row, (0, 1))))


if __name__ == "__main__":
    unittest.main()
