"""What any function of the package keeps to: the errors it raises, and that it changes and shares nothing."""

import unittest

from postways.desk import Desk
from postways.errors import InvalidDesk, InvalidPlan, InvalidRun, NothingToRedo
from postways.plans import Plan
from postways.posts import Post
from postways.runs import Run
from tests.samples import odd_objects

CLASSES = {InvalidRun: Run, InvalidPlan: Plan, InvalidDesk: Desk}


class Call:
    """A function with good arguments, and for each the error it raises or None for the value that it judges."""

    def __init__(self, function, *parameters):
        self.function = function
        self.names = [name for name, _, _ in parameters]
        self.makes = [make for _, make, _ in parameters]
        self.errors = [error for _, _, error in parameters]

    def good(self):
        """New good arguments."""
        return [make() for make in self.makes]


def told(call):
    """The error that a call raises, or what it returns."""
    try:
        return call()
    except Exception as error:
        return error


def spoil(value):
    """Changes all lists and dictionaries within a value."""
    if isinstance(value, (list, tuple)):
        for inner in value:
            spoil(inner)
    if isinstance(value, dict):
        for inner in value.values():
            spoil(inner)
        value.clear()
        value["spoilt"] = 1
    if isinstance(value, list):
        value[:] = ["spoilt"]


def made_again(desk):
    """The list of all commands that can be made again on a desk, with the runs and the kinds held behind them."""
    desk, found = desk.copy(), []
    while True:
        try:
            desk.redo()
        except NothingToRedo:
            return found
        found.append((desk.record()[-1], desk.run(), desk.held()))


def shown(value):
    """A text that tells a value apart from all unlike ones, also of another class, order or kind."""
    if hasattr(value, "rows"):
        return f"Run({shown(value.rows())})"
    if isinstance(value, Post):
        return f"Post({value.kind()}, {shown(value.line())}, {shown(value.run())})"
    if isinstance(value, Plan):
        return f"Plan({shown([value.pieces(), value.ways(), value.firsts(), value.lasts()])})"
    if isinstance(value, Desk):
        return f"Desk({shown([value.run(), value.held(), value.record(), made_again(value)])})"
    if isinstance(value, (list, tuple)):
        return f"{type(value).__name__}({', '.join(shown(inner) for inner in value)})"
    if isinstance(value, dict):
        return f"dict({', '.join(f'{shown(key)}: {shown(inner)}' for key, inner in value.items())})"
    return repr(value)


class CallCase(unittest.TestCase):
    """Checks of calls, for the tests of each module."""

    def check_error(self, call, arguments, error, value):
        """A call raises just this error, keeps the very value and changes nothing."""
        before = shown(arguments)
        for outcome in (
            told(lambda: call.function(*arguments)),
            told(lambda: call.function(**dict(zip(call.names, arguments)))),
        ):
            self.assertIs(type(outcome), error, (call.function.__name__, arguments))
            self.assertIs(outcome.value, value, (call.function.__name__, arguments))
        self.assertEqual(shown(arguments), before)

    def check_wrong(self, call, position, wrongs):
        """An argument is told as wrong, also where all behind it are wrong, too."""
        for wrong in wrongs:
            arguments = call.good()
            arguments[position] = wrong
            self.check_error(call, arguments, call.errors[position], wrong)
            behind = [None if error else wrong for error in call.errors[position + 1:]]
            self.check_error(call, [*arguments[:position + 1], *behind], call.errors[position], wrong)

    def check_odd_objects(self, calls, good):
        """Odd objects are told as wrong at each argument, but those that are good for its error."""
        for call in calls:
            for position, error in enumerate(call.errors):
                if error is not None:
                    known = CLASSES.get(error, ())
                    wrongs = [value for value in odd_but(*good.get(error, [])) if not isinstance(value, known)]
                    self.check_wrong(call, position, wrongs)

    def check_judge(self, call, wrongs):
        """A judge returns False for its last parameter, raises nothing and changes nothing."""
        self.assertIs(call.function(*call.good()), True)
        for wrong in wrongs:
            arguments = [*call.good()[:-1], wrong]
            before = shown(arguments)
            self.assertIs(told(lambda: call.function(*arguments)), False, (call.function.__name__, wrong))
            self.assertEqual(shown(arguments), before)

    def check_shares_nothing(self, call):
        """Equal calls return equal results, whatever was done with arguments and results of earlier ones."""
        arguments = call.good()
        before = shown(arguments)
        first = call.function(*arguments)
        self.assertEqual(shown(arguments), before, call.function.__name__)
        expected = shown(first)
        second = call.function(*arguments)
        self.assertEqual(shown(second), expected)
        if isinstance(first, (list, dict)):
            self.assertIsNot(first, second)
        spoil(first)
        self.assertEqual(shown(second), expected)
        self.assertEqual(shown(call.function(*arguments)), expected)
        kept = [argument for argument in arguments if isinstance(argument, (Run, Plan))]
        spoil([argument for argument in arguments if not isinstance(argument, (Run, Plan))])
        self.assertEqual(shown(second), expected)
        fresh = [kept.pop(0) if isinstance(good, (Run, Plan)) else good for good in call.good()]
        self.assertEqual(shown(call.function(*fresh)), expected)
        self.assertEqual(shown(call.function(**dict(zip(call.names, call.good())))), expected)


class EachCall:
    """Tests of all calls of a module, for a case that tells them and, for each error, odd objects that are good."""

    calls = []
    good = {}

    def test_wrong_arguments(self):
        self.check_odd_objects(self.calls, self.good)

    def test_nothing_is_shared_and_nothing_passed_is_changed(self):
        for call in self.calls:
            self.check_shares_nothing(call)


def call_of(calls, function):
    """The call of a function among some calls."""
    return next(call for call in calls if call.function is function)


def odd_but(*good):
    """New odd objects other than these."""
    known = [shown(value) for value in good]
    return [value for value in odd_objects() if shown(value) not in known]
