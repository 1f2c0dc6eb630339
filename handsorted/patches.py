"""Patches, which make one list of another one."""

from handsorted.errors import BadMove, HandError
from handsorted.handlist import items_of
from handsorted.scripts import least_script
from handsorted.steps import AddStep, DropStep, FieldsStep, GroupStep, MoveStep, RuleStep


def patch(first, second):
    """Return the patch from one list to another one. Raises BadMove if their widths differ."""
    if first.width != second.width:
        raise BadMove((first.width, second.width))
    steps = item_steps(first, second)
    hand = first.copied()
    for step in steps:
        step.run(hand)
    for ids, behind in least_script(hand.order, second.order):
        steps.append(MoveStep(*ids, behind=behind))
    return GroupStep(*steps)


def item_steps(first, second):
    """Return the steps that give one list the items and the rule of another one."""
    olds = items_of(first)
    news = items_of(second)
    dropped = [row_id for row_id in sorted(olds) if row_id not in news]
    kept = [row_id for row_id in sorted(olds) if row_id in news]
    added = [row_id for row_id in sorted(news) if row_id not in olds]
    steps = [DropStep(*dropped)] if len(dropped) > 0 else []
    for row_id in kept:
        if olds[row_id] != news[row_id]:
            fields = news[row_id]
            steps.append(FieldsStep(row_id, *fields))
    if first.rule != second.rule:
        columns = second.rule
        steps.append(RuleStep(*columns))
    for row_id in added:
        fields = news[row_id]
        steps.append(AddStep(row_id, *fields))
    return steps


def is_patch(first, second, step):
    """Return whether a step makes of one list what another one has: its width, items, rule and order."""
    hand = first.copied()
    try:
        step.run(hand)
    except HandError:
        return False
    return shown(hand) == shown(second)


def shown(hand):
    """Return what a patch gives to a list."""
    return (hand.width, items_of(hand), hand.rule, hand.order)
