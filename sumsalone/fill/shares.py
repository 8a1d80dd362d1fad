"""How a number can be shared out."""


def shares(total, bounds):
    """The ascending list of all tuples with this total of integers from 0 to these bounds."""
    if not 0 <= total <= sum(bounds):
        return []
    found = [()]
    behind = sum(bounds)
    for bound in bounds:
        behind -= bound
        longer = []
        for share in found:
            left = total - sum(share)
            # What is left has to fit in behind, so no share is begun in vain.
            longer.extend([share + (number,) for number in range(max(0, left - behind), min(bound, left) + 1)])
        found = longer
    return found
