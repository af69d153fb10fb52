"""Rules, calendars and squares as texts."""


def show_rule(rule):
    """Return the text of a rule."""
    return f"{rule.a}r + {rule.b}c + {rule.d}"


def show_calendar(calendar):
    """Return the text of a calendar."""
    divisors = ",".join([str(divisor) for divisor in calendar.divisors])
    extra = ",".join([str(size) for size in calendar.extra])
    if extra == "":
        return f"{calendar.number} ({divisors})"
    return f"{calendar.number} ({divisors}) but {extra}"


def show_square(rows):
    """Return the text of a list of rows of integers."""
    return "; ".join([" ".join([str(number) for number in row]) for row in rows])
