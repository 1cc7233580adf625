"""What is reached, step by step, in a graph that is given as a dict of lists."""


def reached(starts, leads):
    """Return the list of starts and of all that leads, a dict of lists, leads to from them, each of them once."""
    known = {item: True for item in starts}
    queue = list(known)
    done = 0
    while done < len(queue):
        start = queue[done]
        done += 1
        for item in leads.get(start, []):
            if item not in known:
                known[item] = True
                queue.append(item)
    return queue
