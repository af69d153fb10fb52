from rulesquares.checks import check_cell, check_number, check_seen, check_size
from rulesquares.errors import InvalidCell, InvalidNumber, InvalidSize
from wrong import Wrong

FAR = 10 ** 61


class Checks(Wrong):
    def test_what_is_right_raises_nothing(self):
        for n in (1, 2, 7, FAR):
            self.assertIsNone(check_size(n))
            for number in (0, n // 2, n - 1):
                self.assertIsNone(check_number(n, number))
                self.assertIsNone(check_cell(n, number, n - 1 - number))
                self.assertIsNone(check_seen(n, number, 0, n - 1 - number))

    def test_what_is_wrong(self):
        for n in (0, -1, -FAR):
            self.check(InvalidSize, n, check_size, n)
        for number in (-FAR, -1, 5, 6, FAR):
            self.check(InvalidNumber, number, check_number, 5, number)
            self.check(InvalidCell, (number, 4), check_cell, 5, number, 4)
            self.check(InvalidCell, (0, number), check_cell, 5, 0, number)
            self.check(InvalidNumber, number, check_seen, 5, 4, 4, number)
            self.check(InvalidCell, (number, 0), check_seen, 5, number, 0, number)
            self.check(InvalidCell, (number, number), check_cell, 5, number, number)
