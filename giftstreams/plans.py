"""Plans of rows, and the rows that are grown from them."""

from giftstreams.ahead import Ahead
from giftstreams.cuts import Cut, Left, Upto
from giftstreams.errors import NoPlan, NoRow
from giftstreams.groups import Groups
from giftstreams.joined import Beside, Chained
from giftstreams.rows import want_free, want_rows
from giftstreams.rules import rule_told, sum_of, test_told
from giftstreams.shapes import fits, inner_plans
from giftstreams.sources import Counted, Listed, ToldBy
from giftstreams.spares import Spare, Wanted
from giftstreams.turned import Sieved, Turned
from giftstreams.windows import Windows


def is_plan(thing):
    """Tell of anything whether it is a plan."""
    return fits("plan", thing)


def want_plan(thing):
    """Refuse anything but a plan."""
    if not is_plan(thing):
        raise NoPlan("a plan is wanted")


def grown(plan, rows):
    """Tell a free row, as the plan says, upon those rows that it names."""
    want_plan(plan)
    want_rows(rows)
    places = _places_named(plan)
    if any([place >= len(rows) for place in places]):
        raise NoRow("the plan names more rows than there are")
    want_free([rows[place] for place in places])
    return _row_of(plan, rows)


def _places_named(plan):
    if plan[0] == "row":
        return [plan[1]]
    places = []
    for inner in inner_plans(plan):
        places.extend(_places_named(inner))
    return places


def _row_of(plan, rows):
    if plan[0] == "row":
        return rows[plan[1]]
    lower = [_row_of(inner, rows) for inner in inner_plans(plan)]
    match plan[0]:
        case "list" | "broken" | "count":
            return _source(plan)
        case "chain":
            return Chained(lower)
        case "beside":
            return Beside(lower)
        case "spare":
            return Spare(lower[0], lower[1])
        case _:
            return _row_upon(plan, lower[0])


def _source(plan):
    match plan:
        case ("list", numbers):
            return Listed(list(numbers))
        case ("broken", numbers, word):
            return _broken(numbers, word)
        case ("count", first, step, many):
            return Counted(first, step, many)


def _row_upon(plan, row):
    match plan:
        case ("turn", rule, _):
            return Turned(row, _turning_by(rule))
        case ("sieve", test, _):
            return Sieved(row, _testing_by(test))
        case ("upto", test, _):
            return Upto(row, _testing_by(test))
        case ("cut", n, _):
            return Cut(row, n)
        case ("left", n, _):
            return Left(row, n)
        case ("ahead", _):
            return Ahead(row)
        case ("windows", size, step, _):
            return Windows(row, size, step)
        case ("marks", divisor, _):
            return Groups(row, _marking_by(divisor))
        case ("wanted", n, word, _):
            return Wanted(row, n, word)


def _broken(numbers, word):
    def tell(k):
        if k < len(numbers):
            return ("gift", numbers[k])
        return ("fault", word)

    return ToldBy(tell, lambda: None)


def _turning_by(rule):
    return lambda gift: rule_told(rule, gift)


def _testing_by(test):
    return lambda gift: test_told(test, gift)


def _marking_by(divisor):
    return lambda gift: sum_of(gift) % divisor
