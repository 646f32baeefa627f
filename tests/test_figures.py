import unittest

from cases import WRONG, Case, drawing
from freetops.figures import forms_of_number, number_of_forms


class Figures(Case):
    def test_forms_of_numbers(self):
        self.same([forms_of_number(5, 0, []), forms_of_number(5, 0, [2, 0]), forms_of_number(5, 7, [1, 3]),
                   forms_of_number(5, 5 ** 3 * 4, (3, 0, 1))], [(), ((), ()), ((2,), (1,)), ((), (), (4,))])

    def test_both_ways(self):
        draw = drawing(351)
        for _ in range(60):
            prime = draw.choice([2, 5, 97])
            lengths = [draw.randrange(6) for _ in range(draw.randrange(5))]
            many = prime ** sum(lengths)
            number = draw.randrange(many)
            forms = forms_of_number(prime, number, lengths)
            self.same([len(forms), number_of_forms(prime, forms, lengths)], [len(lengths), number])
            self.assertIsNone(forms_of_number(prime, many, lengths))
            self.same(number_of_forms(prime, forms_of_number(prime, many - 1, lengths), lengths), many - 1)

    def test_values_that_are_no_numbers(self):
        for value in [*WRONG, (), -1, 25, -10 ** 5000, 10 ** 5000]:
            self.assertIsNone(forms_of_number(5, value, [2]))


if __name__ == "__main__":
    unittest.main()
