"""Machines and nets for the tests: made by chance from a fixed beginning, and large ones."""

from pilereach.machine import Machine, Step
from pilereach.net import Net


def random_net(chance, states, letters, plainly):
    """A small net; only a plain one if plainly is True, else either."""
    nodes = states + chance.randint(0, 4)
    lowest = states if plainly else 0
    edges = []
    if lowest < nodes:
        for _ in range(chance.randint(0, 12)):
            edges.append((chance.randrange(nodes), chance.randrange(letters), chance.randrange(lowest, nodes)))
    ends = [chance.randrange(nodes) for _ in range(chance.randint(0, 3))]
    return Net(states, letters, nodes, edges, ends)


def random_nets(chance, plainly=False):
    """Two nets of as many states and letters."""
    states = chance.randint(1, 3)
    letters = chance.randint(1, 3)
    return random_net(chance, states, letters, plainly), random_net(chance, states, letters, plainly)


def random_machine(chance, most_states=3, most_letters=3, most_steps=10):
    """A small machine; the weights and the numbers of laid letters vary by machine."""
    states = chance.randint(1, most_states)
    letters = chance.randint(1, most_letters)
    weights = chance.choice([(0,), (0, 1), (1,), (0, 1, 2, 5, 10 ** 9)])
    laid = chance.choice([(0, 1, 2), (0, 2), (0, 0, 1, 2, 2), (1, 2), (0, 0, 2)])
    steps = []
    for _ in range(chance.randint(0, most_steps)):
        letters_laid = [chance.randrange(letters) for _ in range(chance.choice(laid))]
        steps.append(
            Step(
                chance.randrange(states),
                chance.randrange(letters),
                chance.randrange(states),
                letters_laid,
                chance.choice(weights),
            )
        )
    return Machine(states, letters, steps)


def copy_of_net(net):
    """An equal net that shares nothing with this one."""
    return Net(net.states, net.letters, net.nodes, list(net.edges), list(net.ends))


def copy_of_machine(machine):
    """An equal machine that shares nothing with this one."""
    steps = [Step(step.state, step.letter, step.goal, list(step.laid), step.weight) for step in machine.steps]
    return Machine(machine.states, machine.letters, steps)


def large_machine(chance, states, letters, laid):
    """As many steps as a machine may have, laying so many letters each."""
    steps = []
    for _ in range(2_000):
        letters_laid = [chance.randrange(letters) for _ in range(chance.choice(laid))]
        steps.append(
            Step(
                chance.randrange(states),
                chance.randrange(letters),
                chance.randrange(states),
                letters_laid,
                chance.randrange(10 ** 9 + 1),
            )
        )
    return Machine(states, letters, steps)


def large_net(chance, states, letters, nodes=100, edges=3_000):
    """As large a plain net as may be passed."""
    triples = [
        (chance.randrange(nodes), chance.randrange(letters), chance.randrange(states, nodes)) for _ in range(edges)
    ]
    return Net(states, letters, nodes, triples, [chance.randrange(nodes) for _ in range(5)])


def chain_heads(states=64, letters=31):
    """Heads in a row: 1,984 of them."""
    return [(state, letter) for letter in range(letters) for state in range(states)]


def chain_steps(heads, laid=()):
    """For each head a step to the next one, with these letters below."""
    return [
        Step(state, letter, goal, (above,) + laid, 3)
        for (state, letter), (goal, above) in zip(heads, heads[1:])
    ]


def doubling_machine(letters):
    """Each letter becomes two of the next one, and the last one is taken off."""
    steps = [Step(0, letter, 0, (letter + 1, letter + 1), 1) for letter in range(letters - 1)]
    return Machine(1, letters, steps + [Step(0, letters - 1, 0, (), 1)])
