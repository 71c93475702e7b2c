"""What many tests check in the same way."""

import inspect

from leverhouse.agree import Parting, Unsettled
from leverhouse.changes import LateParting, LateRound
from leverhouse.errors import TooMany
from leverhouse.races import is_determinate


def check_limits(test, count, question):
    """`question`, a function of the limit, counts exactly so many."""
    question(count)
    question(count + 1)
    for limit in sorted({1, count - 1} - {0, count}):
        with test.assertRaises(TooMany) as caught:
            question(limit)
        test.assertEqual(caught.exception.limit, limit)


def check_defaults(test, *functions):
    """What the functions take if a hurry or a limit is not given."""
    for function in functions:
        parameters = inspect.signature(function).parameters
        test.assertEqual(parameters["limit"].default, 3000)
        if "hurry" in parameters:
            test.assertEqual(parameters["hurry"].default, 0)


def determinate_in(boards):
    """Each of the boards with the hurries 0 and 1, as far as it is determinate in them."""
    for board in boards:
        for hurry in (0, 1):
            if is_determinate(board, hurry=hurry):
                yield board, hurry


def told(result):
    """The fields of what `agree`, `race` or `change` returns, as tests.slow gives them."""
    if isinstance(result, Unsettled):
        return (result.which, result.play, result.moves)
    if isinstance(result, Parting):
        return (result.first, result.second, result.shows)
    if isinstance(result, LateRound):
        return (result.before, result.play, result.moves)
    if isinstance(result, LateParting):
        return (result.before, result.first, result.second, result.shows)
    return result
