"""The longest runs: over all addresses, over those of a length, and the first beyond a number of steps.

While a book reads, each segment that it reads behind a full hand takes a step. So a ring of stands
takes steps, and there is a longest run exactly if no ring lies on the way to an end.
"""

from sentonward.addresses import Address
from sentonward.ends import end_of
from sentonward.errors import OutOfRange
from sentonward.kinds import is_index, is_integer, is_word
from sentonward.stands import ordered, settling, whole_graph
from sentonward.views import fed, opening, spare_word, team_of

MOST_SEGMENTS = 200
MOST_STEPS = 100


def best_plan(moves, known, plan):
    """Return the plan with the most steps: a given one, or a move and the plan that is known behind it.

    A plan is a tuple (steps, sign, target) of all steps to the end, and the move that it begins with.
    """
    for sign, steps, target in moves:
        if target is None or target in known:
            total = steps if target is None else steps + known[target][0]
            if plan is None or total > plan[0]:
                plan = (total, sign, target)
    return plan


def stop_plan(graph, at):
    """Return the plan to end the path at an index, or None if the address never settles then."""
    return None if graph.stops[at] is None else (graph.stops[at], None, None)


def most_of(system, graph, order):
    """Return the tuple of the longest run, where there is one."""
    plans = {}
    for at in order:
        plans[at] = best_plan(graph.moves[at], plans, stop_plan(graph, at))
    # No step is taken from a state that does not occur.
    steps, start, at = 0, spare_word(system.states), None
    for state, index in graph.beginnings():
        if index in plans and plans[index][0] > steps:
            steps, start, at = plans[index][0], state, index
    signs = []
    while at is not None:
        _, sign, at = plans[at]
        if sign is not None:
            signs.append(sign)
    return "most", steps, graph.spelled(start, signs, 0)


def ring_in(graph, left):
    """Return the index of a stand and the list of the signs that lead from it back to it.

    Each of the indexes in left, a dict, leads to one of them.
    """
    at = list(left)[0]
    seen = {}
    signs = []
    while at not in seen:
        seen[at] = len(signs)
        sign, _, at = [move for move in graph.moves[at] if move[2] in left][0]
        signs.append(sign)
    return at, signs[seen[at]:]


def way_from(ways, at):
    """Return the list of the signs on a way from an index to an end."""
    signs = []
    while at is not None:
        sign, at = ways[at]
        if sign is not None:
            signs.append(sign)
    return signs


def more_of(system, graph, ways, order):
    """Return the tuple of runs that are longer and longer, where a ring lies on the way to an end."""
    left = {at: True for at in ways}
    for at in order:
        del left[at]
    at, signs = ring_in(graph, left)
    state, route = graph.search.route(at)
    front, views = graph.joint.spelled(graph.joint.begun(state), route)
    # The ring leads back to the same stand, but other words may be in hand.
    seen = {}
    rounds = []
    while views not in seen:
        seen[views] = len(rounds)
        path, views = graph.joint.spelled(views, signs)
        rounds.append(path)
    again = seen[views]
    for path in rounds[:again]:
        front = front + path
    block = tuple([word for path in rounds[again:] for word in path])
    rest = graph.joint.spelled(views, way_from(ways, at))[0]
    steps = end_of(system, Address(state, front + rest))[1]
    each = end_of(system, Address(state, front + block + rest))[1] - steps
    return "more", state, front, block, rest, steps, each


def longest(system):
    """Return the tuple of a longest run, or of runs that are longer and longer."""
    graph = whole_graph(system)
    ways = settling(graph)
    order = ordered(graph, ways)
    if len(order) < len(ways):
        return more_of(system, graph, ways, order)
    return most_of(system, graph, order)


def is_most(system, value):
    """Return whether a tuple is right that is said to be that of a longest run."""
    if len(value) != 3 or not is_integer(value[1]) or not isinstance(value[2], Address):
        return False
    told = end_of(system, value[2])
    if told is None or told[1] != value[1]:
        return False
    right = longest(system)
    return right[0] == "most" and right[1] == value[1]


def is_path(value):
    """Return whether value is a tuple of words."""
    return isinstance(value, tuple) and all([is_word(word) for word in value])


def is_more(system, value):
    """Return whether a tuple is right that is said to be that of runs that are longer and longer.

    The block is put in until what has been reached comes again: from there on each further block
    takes as many steps as before.
    """
    if len(value) != 7 or not is_word(value[1]) or not all([is_path(path) for path in value[2:5]]):
        return False
    _, state, front, block, rest, steps, each = value
    if not is_integer(steps) or not is_integer(each) or each < 1:
        return False
    team = team_of(system)
    view, taken = fed(team, opening(state), front, False)
    seen = {}
    wanted = steps
    while True:
        end, more = fed(team, view, rest, True)
        if end[0] == "never" or taken + more != wanted:
            return False
        if view in seen:
            return True
        seen[view] = True
        view, more = fed(team, view, block, False)
        taken += more
        wanted += each


def is_longest(system, value):
    """Return whether any value is a tuple that longest may return."""
    if not isinstance(value, tuple) or len(value) == 0 or not isinstance(value[0], str):
        return False
    if value[0] == "most":
        return is_most(system, value)
    return value[0] == "more" and is_more(system, value)


def most_steps(system, many):
    """Return the most steps of the addresses with so many segments, and one that takes them, or None."""
    if not is_index(many, MOST_SEGMENTS + 1):
        raise OutOfRange(many)
    graph = whole_graph(system)
    indexes = list(range(len(graph.moves)))
    plans = [{at: stop_plan(graph, at) for at in indexes if graph.stops[at] is not None}]
    for _ in range(many):
        told = {at: best_plan(graph.moves[at], plans[-1], None) for at in indexes}
        plans.append({at: told[at] for at in indexes if told[at] is not None})
    best = None
    starts = dict(graph.beginnings())
    for state in system.states:
        at = starts.get(state, None)
        steps = 0 if at is None else plans[many].get(at, (-1, None, None))[0]
        if steps >= 0 and (best is None or steps > best[0]):
            best = (steps, state, at)
    if best is None:
        return None
    steps, state, at = best
    signs = []
    while at is not None:
        _, sign, at = plans[many - len(signs)][at]
        if sign is not None:
            signs.append(sign)
    return steps, graph.spelled(state, signs, many)


def signs_to(queue, at):
    """Return the state and the list of the signs by which an entry of a queue was found."""
    signs = []
    while queue[at][2] is not None:
        signs.append(queue[at][3])
        at = queue[at][2]
    return queue[at][3], signs[::-1]


def beyond(system, steps):
    """Return a shortest address that settles after more than so many steps, or None."""
    if not is_index(steps, MOST_STEPS + 1):
        raise OutOfRange(steps)
    graph = whole_graph(system)
    # An entry has an index, the steps so far, the entry that it was found from, and by which sign.
    queue = [(at, 0, None, state) for state, at in graph.beginnings()]
    most = {at: 0 for at, _, _, _ in queue}
    done = 0
    while done < len(queue):
        at, taken, _, _ = queue[done]
        if at is None or graph.stops[at] is not None and taken + graph.stops[at] > steps:
            state, signs = signs_to(queue, done)
            return graph.spelled(state, signs, 0)
        for sign, more, target in graph.moves[at]:
            # More than enough is as good as just enough, so there are few numbers to look at.
            total = taken + more if taken + more <= steps else steps + 1
            if target is None:
                if total > steps:
                    queue.append((None, total, done, sign))
            elif total > most.get(target, -1):
                most[target] = total
                queue.append((target, total, done, sign))
        done += 1
    return None
