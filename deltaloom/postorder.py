"""Trees of nested tuples, worked out from the bottom up. Loops, not recursion: a tree may have any depth."""


def in_postorder(tree, parts_of):
    """Return the list of the tree and all its parts, each behind its own parts, from left to right."""
    found = []
    waiting = [tree]
    while waiting:
        part = waiting.pop()
        found.append(part)
        waiting.extend(parts_of(part))
    # The loop finds each part before its own parts, and the right ones before the left ones.
    found.reverse()
    return found


def worked_out(tree, parts_of, result_of):
    """Return the result of a tree; `result_of` takes a part and the list of the results of its own parts."""
    results = []
    for part in in_postorder(tree, parts_of):
        first = len(results) - len(parts_of(part))
        results[first:] = [result_of(part, results[first:])]
    return results[0]
