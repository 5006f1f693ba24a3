"""What happens to a program if its steps or cases change, and which of them fail or are taken."""

from partedvalues.building import built
from partedvalues.compare import alike, unlike_ends
from partedvalues.errors import UnknownPlace
from partedvalues.growing import grown, takings_in, thin_tree
from partedvalues.patterns import Program


def with_steps(program, steps):
    """Return a program with other steps."""
    return Program(steps, program.order, program.lacks)


def needless(program):
    """Return the ascending list of the indexes of the steps without which a program does the same."""
    node = thin_tree(program)
    return [index for index in range(len(program)) if is_done_by(node, program.without(index))]


def is_done_by(node, program):
    """Tell whether a program does what a thin tree tells."""
    return unlike_ends(node, thin_tree(program)) is None


def sets_of(many):
    """Return the list of all sets of numbers below one, by how many they are, then as lists."""
    sets = [[]]
    for number in range(many):
        sets = sets + [chosen + [number] for chosen in sets]
    return sorted(sets, key=lambda chosen: (len(chosen), chosen))


def least_sets(program):
    """Return the list of the sets of steps that alone do the same, while none with only some of them does."""
    node = thin_tree(program)
    steps = program.steps
    found = []
    for chosen in sets_of(len(steps)):
        if any([all([index in chosen for index in least]) for least in found]):
            continue
        if is_done_by(node, with_steps(program, [steps[index] for index in chosen])):
            found.append(chosen)
    return found


def may_exchange(program, index):
    """Tell whether a program does the same with a step and the next one exchanged."""
    return alike(program, program.exchanged(index))


def surely_binds(program):
    """Tell whether a pattern or program fails for no value and functions."""
    return all([taking.failure is None for taking in takings_in(grown(program))])


def fails(program):
    """Return the ascending list of the indexes of the steps at which a program can fail."""
    takings = takings_in(grown(program))
    return sorted({taking.reached for taking in takings if taking.failure is not None})


def untaken(program):
    """Return the ascending list of the tuples (step, case) of the cases that are never taken."""
    takings = takings_in(grown(program))
    taken = {pair: True for taking in takings for pair in taking.taken.items()}
    return [(index, case) for index, step in enumerate(program.steps) if step[0] == "cases"
            for case in range(len(step[2])) if (index, case) not in taken]


def cases_at(program, step):
    """Return the parts of the `cases` step at an index; raise UnknownPlace if there is none."""
    steps = program.steps
    if not 0 <= step < len(steps) or steps[step][0] != "cases":
        raise UnknownPlace(step)
    return steps[step][2]


def may_swap(program, step, case):
    """Tell whether a program does the same with a case of a step and the next one exchanged."""
    parts = cases_at(program, step)
    if not 0 <= case < len(parts) - 1:
        raise UnknownPlace(case)
    parts[case], parts[case + 1] = parts[case + 1], parts[case]
    steps = program.steps
    steps[step] = ("cases", steps[step][1], parts)
    return alike(program, with_steps(program, steps))


def left_over(program, step):
    """Return a tuple (value, results) of which none of the cases of a step is taken, or None."""
    cases_at(program, step)
    for taking in takings_in(grown(program)):
        if taking.reached == step and taking.failure is not None and taking.failure[1] == "cases":
            return built(taking.facts, [taking.outcome()])
    return None
