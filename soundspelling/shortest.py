"""The letters that are told for sounds: the shortest row, of several the first in order.

All rows are gone through at once, the shorter ones first, those of one length in
order. Of a row only its state counts: the letters that are open, and how many of
the sounds are told. So of all rows with one state the first that comes is enough.
"""


def letters_for(tree, sounds):
    """Give the letters that are told for the sounds, or None if no letters sound so."""
    start = ((), 0)
    came_by = {start: None}
    states = [start]
    unused = {}
    place = 0
    while place < len(states):
        state = states[place]
        place += 1
        if told_behind(sounds, state[1], tree[state[0]].ended) == len(sounds):
            return row_to(came_by, state)
        for step in new_steps(tree, sounds, state, unused):
            if step[1] not in came_by:
                came_by[step[1]] = (state, step[0])
                states.append(step[1])
    return None


def new_steps(tree, sounds, state, unused):
    """Give the letters that lead on from a state, in order, each with the state it leads to.

    `unused` has, by state, the letters whose ways from there were not gone yet. A way
    leads to the same state whoever goes it, so it is gone but once.
    """
    steps = []
    passed = []
    for here in states_without_more(tree, sounds, state):
        ways = tree[here[0]].ways
        kept = []
        for letter in unused.get(here, ways):
            if any([letter in earlier for earlier in passed]):
                kept.append(letter)
            else:
                steps.extend(step_by(sounds, here[1], letter, ways[letter]))
        unused[here] = kept
        passed.append(ways)
    return sorted(steps)


def states_without_more(tree, sounds, state):
    """Give the state, and those to which its open letters lead as they are given up, one behind another."""
    states = [state]
    while states[-1][0]:
        given_up = tree[states[-1][0]].given_up
        told = told_behind(sounds, states[-1][1], given_up.sounds)
        if told is None:
            return states
        states.append((given_up.left, told))
    return states


def step_by(sounds, told, letter, way):
    """Give the letter with the state that its way leads to, in a list; an empty list if it sounds otherwise."""
    behind = told_behind(sounds, told, way.sounds)
    if behind is None:
        return []
    return [(letter, (way.left, behind))]


def told_behind(sounds, told, more):
    """Give how many sounds are told with some more; None if these don't come next."""
    end = told + len(more)
    if sounds[told:end] == more:
        return end
    return None


def row_to(came_by, state):
    """Give the letters by which the state was come to."""
    row = []
    while came_by[state] is not None:
        row.append(came_by[state][1])
        state = came_by[state][0]
    return list(reversed(row))
