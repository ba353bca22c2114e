"""The search for a run that shows a question, through all watched states that runs have."""

from heldwrites.moves import STOPPED, rows_behind
from heldwrites.watched import dos_watched, first_watched, sends_at_once, sends_watched


class Atlas:
    """The sights of a question, and what leads from each to which, worked out once.

    A sight is a watched state without its row. Sights are numbered, so that a node (position, number) is small: many
    rows share one sight. Where a step shows the question, None stands in the place of the number.
    """

    def __init__(self, watch):
        self.watch = watch
        self.sights = []
        self.numbers = {}
        self.sends = {}
        self.dos = {}

    def number_of(self, state):
        """The number of the watched state's sight, None for None."""
        if state is None:
            return None
        sight = state[1:]
        if sight not in self.numbers:
            self.numbers[sight] = len(self.sights)
            self.sights.append(sight)
        return self.numbers[sight]

    def state_at(self, row, number):
        """The watched state with this row and the sight of this number."""
        return (row, *self.sights[number])

    def sends_from(self, number):
        """Pairs (step, number behind it) for the sends that can be taken in the sight."""
        if number not in self.sends:
            pairs = sends_watched(self.watch, self.state_at(STOPPED, number))
            self.sends[number] = [(step, self.number_of(state)) for step, state in pairs]
        return self.sends[number]

    def dos_from(self, row, number):
        """The numbers behind the row in the sight, one for each way to choose."""
        if (row, number) not in self.dos:
            states = dos_watched(self.watch, self.state_at(row, number))
            self.dos[(row, number)] = [self.number_of(state) for state in states]
        return self.dos[(row, number)]


def paths_of(program):
    """For each position, here a row: the row, and pairs (step, position) for the ways to go on."""
    numbers = range(len(program))
    return [(row, [(("do", goal), goal) for goal in rows_behind(program, row)]) for row in numbers]


def node_at(position, number):
    """The node, None if the number is."""
    return None if number is None else (position, number)


def nodes_by_send(atlas, _, node):
    """Pairs (step, node behind it) for the sends from the node."""
    position, number = node
    return [(step, node_at(position, left)) for step, left in atlas.sends_from(number)]


def nodes_by_do(atlas, paths, node):
    """Pairs (step, node behind it) for doing the row of the node."""
    position, number = node
    # Where the program has stopped, or a run has no more rows, there is no path.
    if not 0 <= position < len(paths):
        return []
    row, goals = paths[position]
    return [(step, node_at(goal, left)) for left in atlas.dos_from(row, number) for step, goal in goals]


def first_node(atlas):
    """The node at the beginning."""
    return (0, atlas.number_of(first_watched(atlas.watch)))


def gather(atlas, paths, came, nodes, nodes_by):
    """The new nodes that one step from these leads to; came keeps the node and the step that each came by."""
    found = []
    for node in nodes:
        for step, goal in nodes_by(atlas, paths, node):
            if goal not in came:
                came[goal] = (node, step)
                if goal is None:
                    return []
                found.append(goal)
    return found


def spread(atlas, paths, came, nodes):
    """The nodes, and all new ones that sends alone lead to from them."""
    reached = list(nodes)
    wave = list(nodes)
    while wave:
        wave = gather(atlas, paths, came, wave, nodes_by_send)
        reached = reached + wave
    return reached


def search(atlas, paths):
    """A dict with (node, step) that each node first came by, with as few rows done as can be.

    Under None stands what shows the question; then the search went no further.
    """
    first = first_node(atlas)
    came = {first: None}
    level = [first]
    while level:
        reached = spread(atlas, paths, came, level)
        level = []
        if None not in came:
            level = gather(atlas, paths, came, reached, nodes_by_do)
    return came


def steps_to_showing(atlas, paths, came):
    """The run to the step that shows the question, with the sends of lines that are not tracked."""
    pieces = []
    mark = came[None]
    while mark is not None:
        node, step = mark
        piece = [step]
        if step[0] == "do":
            piece = [step, *sends_at_once(atlas.watch, paths[node[0]][0])]
        pieces.append(piece)
        mark = came[node]
    return [step for piece in pieces[::-1] for step in piece]


def run_found(atlas, paths):
    """A run along the paths that shows the question, with as few rows done as can be; None if there is none."""
    came = search(atlas, paths)
    return steps_to_showing(atlas, paths, came) if None in came else None
