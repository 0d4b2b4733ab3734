"""What comes of drying on: the order is told anew behind each sack, until nothing is left."""

from rotstacks.costs import least_cost
from rotstacks.orders import told_order
from rotstacks.sacks import loss_in_all, sack_hours, sack_number, sacks_in_all, top_sack, without_top


def dry_on(stacks):
    rows = []
    hour = 0
    lost = 0
    left = stacks
    while sacks_in_all(left) > 0:
        at = told_order(left)[0]
        sack = top_sack(left, at)
        hour += sack_hours(sack)
        # The one in the hands costs its loss until it is dry, so it is left out only behind this.
        lost += sack_hours(sack) * loss_in_all(left)
        left = without_top(left, at)
        rows.append((sack_number(sack), hour, lost, least_cost(left)))
    return rows
