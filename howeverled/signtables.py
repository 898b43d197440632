"""What more room between two houses does to all others."""

from howeverled.checks import need_pair
from howeverled.joinings import joined_two
from howeverled.openforms import all_weights, refused_weights, sign_of
from howeverled.webs import pairs_of


def sign_table(web, here, there):
    """For each two houses the sign of the form of their share of refusals."""
    need_pair(web, here, there)
    joining = joined_two(tuple(range(web[0])), here, there)
    weights = all_weights(web, joining)
    return tuple([
        (*pair, sign_of((*refused_weights(web, joining, *pair), *weights)))
        for pair in pairs_of(web[0])
    ])


def unfelt(web, here, there):
    """The pairs of houses whose share is the same at all rooms between here and there."""
    return tuple([(payer, payee) for payer, payee, sign in sign_table(web, here, there) if sign == 0])
