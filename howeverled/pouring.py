"""Coins poured on lines, one by one where the least room is."""

from howeverled.checks import need
from howeverled.kinds import is_number, is_quotient
from howeverled.quotients import less, quotient_of


def poured(rooms, many):
    """The rooms after so many coins were poured."""
    need(is_number(many), "many")
    return filled(rooms, many)


def filled(rooms, many):
    """As poured; nothing is checked."""
    low = sorted(rooms)
    # So many places get a coin or are as high as the last one that does: they come to one level, as far as
    # the coins go, and what is left over lies on the first of them.
    deep = max([place for place in range(1, len(low) + 1) if place * low[place - 1] - sum(low[:place]) <= many])
    level, left = divmod(many + sum(low[:deep]), deep)
    after = []
    for room in rooms:
        more = 1 if room <= level and left > 0 else 0
        left -= more
        after.append(max(room, level) + more)
    return tuple(after)


def pour_row(rooms):
    """The product of the chances of all places."""
    top = 1
    bottom = 1
    for room in rooms:
        top *= room
        bottom *= room + 1
    return quotient_of(top, bottom)


def pour_star(rooms):
    """The sum of the chances of all places, and of the products of each two of them."""
    # All reckoned over one bottom: the sum of the chances so far, and the sum with the products.
    one = 0
    two = 0
    bottom = 1
    for room in rooms:
        two = two * (room + 1) + room * (bottom + one)
        one = one * (room + 1) + room * bottom
        bottom *= room + 1
    return quotient_of(two, bottom)


def coins_for(rooms, wish):
    """The least number of coins that make pour_row at least the wish, or None."""
    need(is_quotient(wish), "wish")
    if not less(wish, (1, 1)):
        return None
    most = 0
    while less(pour_row(filled(rooms, most)), wish):
        most = 2 * most + 1
    least = 0
    while least < most:
        middle = (least + most) // 2
        if less(pour_row(filled(rooms, middle)), wish):
            least = middle + 1
        else:
            most = middle
    return least
