"""Closed lists of nodes, which show that a problem has no row, and the search that finds them."""

from storejudge.kinds import are_rising, is_tuple_of
from storejudge.problems import are_numbers, marked, ways_of
from storejudge.store import is_stand


def is_node(thing, count):
    if not is_tuple_of(thing, 2) or not isinstance(thing[0], tuple) or not is_stand(thing[1]):
        return False
    return are_numbers(thing[0], count) and are_rising(thing[0])


def first_node(ways):
    return ((), ways.first)


def is_last(ways, node):
    return len(ways.missing(marked(node[0]))) == 0


def nodes_behind(ways, node):
    """The pairs (x, node behind x), x rising, for each item that may come and is answered as it should."""
    pairs = []
    for x in ways.followers(marked(node[0])):
        stand = ways.stand_behind(node[1], x)
        if stand is not None:
            pairs.append((x, (tuple(sorted(node[0] + (x,))), stand)))
    return pairs


def stands_fault(problem, nodes):
    return nodes_fault(ways_of(problem), nodes)


def nodes_fault(ways, nodes):
    if not isinstance(nodes, (list, tuple)):
        return ("form", 0)
    for k, thing in enumerate(nodes):
        if not is_node(thing, len(ways.listed)):
            return ("form", k)
    listed = marked(nodes)
    if first_node(ways) not in listed:
        return ("first",)
    for k, node in enumerate(nodes):
        if is_last(ways, node):
            return ("last", k)
        missed = [x for x, after in nodes_behind(ways, node) if after not in listed]
        if len(missed) > 0:
            return ("next", k, missed[0])
    return None


def search(problem, most):
    return searched(ways_of(problem), most)


def searched(ways, most):
    if is_last(ways, first_node(ways)):
        return ("row", ())
    seen = {first_node(ways): True}
    row = []
    # Deep first, and a node counts only when gone to: so a row is found ahead of most other nodes.
    trail = [waiting(ways, first_node(ways))]
    while len(trail) > 0:
        if len(seen) > most:
            return ("more",)
        if len(trail[-1]) == 0:
            trail.pop()
            row = row[:-1]
            continue
        pair = trail[-1].pop()
        if pair[1] in seen:
            continue
        row.append(pair[0])
        if is_last(ways, pair[1]):
            return ("row", tuple(row))
        seen[pair[1]] = True
        trail.append(waiting(ways, pair[1]))
    return ("stands", list(seen))


def waiting(ways, node):
    """The nodes behind a node, the one to go to first at the end."""
    # A must has to come in any case, another item may spoil the row; what changes nothing spoils the least.
    pairs = nodes_behind(ways, node)
    return sorted(pairs, key=lambda pair: urgency(ways, node, pair), reverse=True)


def urgency(ways, node, pair):
    """What is to be gone to first among nodes behind a node: the less, the sooner."""
    return (ways.listed[pair[0]][2] != "must", pair[1][1] != node[1], pair[0])


def ends(problem, most):
    found = rows_to_ends(ways_of(problem), most)
    return None if found is None else sorted(found)


def rows_to_ends(ways, most):
    """Each stand to which rows come, with one such row; None where more than most nodes can be come to."""
    came = {first_node(ways): None}
    todo = [first_node(ways)]
    while len(todo) > 0:
        if len(came) > most:
            return None
        node = todo.pop()
        for x, after in nodes_behind(ways, node):
            if after not in came:
                came[after] = (x, node)
                todo.append(after)
    found = {}
    for node in came:
        if is_last(ways, node) and node[1] not in found:
            found[node[1]] = way_to(came, node)
    return found


def way_to(came, node):
    """The items that led to a node, by what each node was come to from."""
    way = []
    while came[node] is not None:
        way.append(came[node][0])
        node = came[node][1]
    return tuple(reversed(way))
