"""Calls that are looked at: arguments must stay as they were, and what comes must be nobody else's."""

import copy


def changeable(value):
    """All lists and dicts in a value, however deep, by their identities."""
    found, waiting = {}, [value]
    while waiting:
        one = waiting.pop()
        if isinstance(one, (list, dict)):
            found[id(one)] = one
        if isinstance(one, dict):
            waiting.extend(one.values())
        elif isinstance(one, (list, tuple)):
            waiting.extend(one)
    return found


def spoil(value):
    """Changes all lists and dicts in a value."""
    for one in changeable(value).values():
        if isinstance(one, list):
            one.append("spoiled")
        else:
            one["spoiled"] = "spoiled"


def looked_at(test, function, *arguments):
    """What a function returns, once it is sure that the call touched nothing that is not its own."""
    before = copy.deepcopy(arguments)
    first = function(*arguments)
    test.assertEqual(repr(arguments), repr(before), function.__name__)
    told, second = copy.deepcopy(first), function(*arguments)
    test.assertEqual(repr(second), repr(told), function.__name__)
    test.assertEqual(set(changeable(first)) & set(changeable(second)), set(), function.__name__)
    test.assertEqual(set(changeable(first)) & set(changeable(arguments)), set(), function.__name__)
    spoil(first)
    test.assertEqual(repr(function(*arguments)), repr(told), function.__name__)
    test.assertEqual(repr(arguments), repr(before), function.__name__)
    return told


def left_alone(test, function, *arguments):
    """What a function returns that may share with its arguments: these stay as they were, and the answer is the same."""
    before = copy.deepcopy(arguments)
    first = function(*arguments)
    told = copy.deepcopy(first)
    test.assertEqual(repr(function(*arguments)), repr(told), function.__name__)
    test.assertEqual(repr(arguments), repr(before), function.__name__)
    test.assertEqual(repr(first), repr(told), function.__name__)
    return first
