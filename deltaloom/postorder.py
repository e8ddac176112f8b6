"""Trees of nested tuples, worked out from the bottom up and compared. Loops, not recursion: any depth will do."""


def in_postorder(tree, parts_of):
    """Return the list of the tree and all its parts, each behind its own parts, from left to right."""
    found = []
    waiting = [tree]
    while waiting:
        part = waiting.pop()
        found.append(part)
        waiting.extend(parts_of(part))
    # The loop finds each part before its own parts, and the right ones before the left ones.
    found.reverse()
    return found


def worked_out(tree, parts_of, result_of):
    """Return the result of a tree; `result_of` takes a part and the list of the results of its own parts."""
    results = []
    for part in in_postorder(tree, parts_of):
        first = len(results) - len(parts_of(part))
        results[first:] = [result_of(part, results[first:])]
    return results[0]


def same(first, second):
    """Return whether two trees of tuples and lists are equal."""
    waiting = [(first, second)]
    while waiting:
        one, other = waiting.pop()
        if isinstance(one, (tuple, list)) and isinstance(other, (tuple, list)):
            if len(one) != len(other) or isinstance(one, list) != isinstance(other, list):
                return False
            waiting.extend(list(zip(one, other)))
        elif one != other:
            return False
    return True
