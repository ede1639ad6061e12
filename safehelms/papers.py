"""The judge's part: papers are multiplied out, nothing is sought."""

from safehelms.exact import is_fraction, is_up_to, product_of


def shows(lot, row, bound, paper):
    """Whether a value, whatever it is, is a paper for the row and the bound beside the lot."""
    size, wishes = lot
    if not isinstance(paper, tuple) or len(paper) != 2 or not are_weights(len(wishes), paper[1]):
        return False
    kind, weights = paper
    if not isinstance(kind, str) or kind not in ("bound", "void"):
        return False
    weighed_row, weighed_bound = weighed(size, wishes, weights)
    if kind == "bound":
        return weighed_row == row and is_up_to(weighed_bound, bound)
    return weighed_row == ((0, 1),) * size and weighed_bound[0] < 0


def are_weights(many, value):
    """Whether a value is a tuple of so many fractions from 0 on."""
    if not isinstance(value, tuple) or len(value) != many:
        return False
    return all(is_fraction(weight) and weight[0] >= 0 for weight in value)


def weighed(size, wishes, weights):
    """The sums of all weights times the rows, and of all weights times the bounds, of the wishes."""
    used = [(weight, wish) for weight, wish in zip(weights, wishes) if weight[0] != 0]
    shares = [weight for weight, _ in used]
    columns = [[wish[0][place] for _, wish in used] for place in range(size)]
    row = tuple([product_of(shares, column) for column in columns])
    return (row, product_of(shares, [wish[1] for _, wish in used]))
