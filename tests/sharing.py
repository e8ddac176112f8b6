"""Finds lists and dicts that two things have in common (point 1)."""
import copy


def held_in(thing):
    """The lists and dicts in a thing, at any depth, the thing itself included."""
    found, waiting = [], [thing]
    while waiting:
        here = waiting.pop()
        if isinstance(here, (list, dict)):
            found.append(here)
        if isinstance(here, dict):
            waiting += list(here.keys()) + list(here.values())
        if isinstance(here, (list, tuple)):
            waiting += list(here)
    return found


def shared(first, second):
    """Whether two things have a list or dict in common."""
    marks = [id(held) for held in held_in(second)]
    return any(id(held) in marks for held in held_in(first))


def spoil(thing):
    """Change each list and dict in a thing."""
    for held in held_in(thing):
        held.clear()


def check_call(case, function, arguments):
    """The call changes no argument, and its result and its arguments can be changed without each other."""
    given = copy.deepcopy(arguments)
    result = function(*given)
    before = copy.deepcopy(result)
    case.assertEqual(given, arguments, function)
    case.assertFalse(shared(result, given), (function, arguments))
    spoil(given)
    case.assertEqual(result, before, function)
    spoil(result)
    case.assertEqual(function(*copy.deepcopy(arguments)), before, function)
