"""Asks one after the other."""

from howeverled.batches import is_batch
from howeverled.checks import is_rule, need, need_payment, need_split, need_standing
from howeverled.flows import led, most_led, paid_over
from howeverled.leading import parts_by
from howeverled.slacks import is_standing


def after_ask(web, purses, payer, payee, coins):
    """True and the purses behind the payment, or False and the purses if it is refused."""
    need_standing(web, purses)
    need_payment(web[0], payer, payee, coins)
    return answered(web, purses, payer, payee, coins)


def answered(web, purses, payer, payee, coins):
    """As after_ask; nothing is checked."""
    after = paid_over(purses, payer, payee, coins)
    return (True, after) if is_standing(web, after) else (False, purses)


def run_of(web, purses, calls):
    """The answers to the calls, one after the other, and the last purses."""
    need_standing(web, purses)
    need(is_batch(web[0], calls), "calls")
    answers = []
    now = purses
    for payer, payee, coins in calls:
        paid, now = answered(web, now, payer, payee, coins)
        answers.append(paid)
    return (tuple(answers), now)


def led_run(web, split, calls, rule):
    """The answers to the calls, led by the rule, and the last split."""
    need_split(web, split)
    need(is_batch(web[0], calls), "calls")
    need(is_rule(rule), "rule")
    answers = []
    near = split
    for payer, payee, coins in calls:
        most, _ = most_led(web[1], near, payer, payee)
        answers.append(most >= coins)
        if most >= coins:
            near = led_by(web[1], near, payer, payee, coins, rule)
    return (tuple(answers), tuple(near))


def led_by(lines, near, payer, payee, coins, rule):
    """Near behind a payment that can be made, led by the rule."""
    after = near
    for part, way in parts_by(lines, near, payer, payee, coins, rule):
        after = led(lines, after, payer, way, part)
    return after
