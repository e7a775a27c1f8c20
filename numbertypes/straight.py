"""What programs make as sums of inputs, of one and of products of sums, each product for itself.

Such a sum is a dict from marks to shares that are not zero. A mark is a pair: ("left", at) and ("right", at) are
inputs, ("one", 0) is one, ("product", at) is what a "multiply" step makes.
"""

from numbertypes.errors import NotStraight
from numbertypes.forms import NOTHING
from numbertypes.integers import product_of_shares, share, sum_of_shares


def scaled(total, factor):
    """The sum times a share."""
    return {mark: product_of_shares(amount, factor) for mark, amount in total.items() if factor != NOTHING}


def added(one, other):
    """The sum of two sums."""
    found = {mark: sum_of_shares(one.get(mark, NOTHING), other.get(mark, NOTHING)) for mark in [*one, *other]}
    return {mark: amount for mark, amount in found.items() if amount != NOTHING}


def row_of(total, role, size):
    """The list of the shares of all marks of a role, or None if there are other marks or shares that are not whole."""
    if not all([mark[0] == role and amount[1] == 1 for mark, amount in total.items()]):
        return None
    return [total.get((role, at), NOTHING)[0] for at in range(size)]


def first_sums(inputs, left):
    """The dict from the inputs to their sums; the first ones are left inputs."""
    marks = [("left", at) for at in range(left)] + [("right", at) for at in range(len(inputs) - left)]
    return {name: {mark: (1, 1)} for name, mark in zip(inputs, marks)}


def sum_made(step, sums):
    """The sum of a step that is no product, for the dict from names to their sums."""
    if step[0] == "constant":
        return scaled({("one", 0): (1, 1)}, share(step[2], step[3]))
    if step[0] == "share":
        return scaled(sums[step[4]], share(step[2], step[3]))
    if step[0] == "subtract":
        return added(sums[step[2]], scaled(sums[step[3]], (-1, 1)))
    return added(sums[step[2]], sums[step[3]])


def straight_products(program, left):
    """The list of the products of the scheme of a program whose first inputs, as many as left says, are left."""
    flat = program.flat()
    right = len(flat.inputs) - left
    sums = first_sums(flat.inputs, left)
    factors = []
    for at, step in enumerate(flat.steps):
        if step[0] == "multiply":
            pair = (row_of(sums[step[2]], "left", left), row_of(sums[step[3]], "right", right))
            if None in pair:
                raise NotStraight(at)
            sums[step[1]] = {("product", len(factors)): (1, 1)}
            factors.append(pair)
        else:
            sums[step[1]] = sum_made(step, sums)
    results = [row_of(sums[name], "product", len(factors)) for name in flat.outputs]
    if None in results:
        raise NotStraight(None)
    return [(u, v, [row[n] for row in results]) for n, (u, v) in enumerate(factors)]
