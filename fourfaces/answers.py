"""Answers of a sheet: which are forbidden, which come behind which, and which can be."""

from fourfaces.words import is_name, is_truth


def are_answers(sheet, thing):
    """Whether a thing is answers of a sheet: a tuple of truths, one for each ask."""
    return isinstance(thing, tuple) and len(thing) == len(sheet.names()) and all([is_truth(part) for part in thing])


def all_answers(sheet):
    """The ascending list of all answers of a sheet."""
    found = [()]
    for _ in sheet.names():
        found = [answers + (truth,) for answers in found for truth in (False, True)]
    return found


def have_pairs(names, answers, pairs):
    """Whether answers, of asks with these names, have all of some pairs."""
    return all([answers[names.index(ask)] == truth for ask, truth in pairs])


def is_forbidden(sheet, answers):
    """Whether answers have all pairs of some "never" fact."""
    names = sheet.names()
    return any([fact[0] == "never" and have_pairs(names, answers, fact[1]) for fact in sheet.facts()])


def free_answers(sheet):
    """The ascending list of the answers that are not forbidden."""
    return [answers for answers in all_answers(sheet) if not is_forbidden(sheet, answers)]


def pairs_after(sheet, step, outcome):
    """The pairs that the facts give behind a step with an outcome."""
    return [fact[3:] for fact in sheet.facts() if fact[:3] == ("after", step, outcome)]


def kept_part(sheet, answers, step):
    """What of answers must stay behind a step."""
    names = sheet.names()
    return tuple([answers[names.index(ask)] for ask in sheet.leaves(step)])


def let_by_kept(sheet, free, step, outcome):
    """The free answers that a step with an outcome lets behind, by what of the answers ahead must stay."""
    names, pairs, found = sheet.names(), pairs_after(sheet, step, outcome), {}
    for answers in free:
        if have_pairs(names, answers, pairs):
            found.setdefault(kept_part(sheet, answers, step), []).append(answers)
    return found


def let_table(sheet):
    """All that each step with each outcome lets behind: lists by (answers, step, outcome)."""
    free, table = free_answers(sheet), {}
    for step, _, outcomes in sheet.steps():
        kept = {answers: kept_part(sheet, answers, step) for answers in all_answers(sheet)}
        for outcome in outcomes:
            found = let_by_kept(sheet, free, step, outcome)
            for answers in kept:
                table[(answers, step, outcome)] = list(found.get(kept[answers], []))
    return table


def lets(sheet, answers, step, outcome):
    """The ascending list of the answers that a step with an outcome lets behind answers."""
    found = let_by_kept(sheet, free_answers(sheet), step, outcome)
    return found.get(kept_part(sheet, answers, step), [])


def let_by_any(sheet, table, answers, step):
    """All answers that a step, by any of its outcomes, lets behind answers."""
    return [later for outcome in sheet.outcomes(step) for later in table[(answers, step, outcome)]]


def closed_answers(sheet, table):
    """The greatest list of free answers from each of which each step leads to some of it."""
    steps = [row[0] for row in sheet.steps()]
    left = free_answers(sheet)
    while True:
        stays = {answers: True for answers in left}
        kept = []
        for answers in left:
            ends = [any([later in stays for later in let_by_any(sheet, table, answers, step)]) for step in steps]
            if all(ends):
                kept.append(answers)
        if len(kept) == len(left):
            return kept
        left = kept


def can_be(sheet):
    """The ascending list of the answers that can be."""
    return closed_answers(sheet, let_table(sheet))


def behind_table(sheet):
    """For each answers that can be, ascending, the lists of those behind, by (step, outcome)."""
    table = let_table(sheet)
    found = {answers: {} for answers in closed_answers(sheet, table)}
    for answers in list(found):
        for step, _, outcomes in sheet.steps():
            for outcome in outcomes:
                some = [later for later in table[(answers, step, outcome)] if later in found]
                found[answers][(step, outcome)] = some
    return found


def behind(sheet, answers, step, outcome):
    """The ascending list of the answers that can be and that a step with an outcome lets behind answers."""
    can = can_be(sheet)
    return [later for later in lets(sheet, answers, step, outcome) if later in can]


def implied(sheet, pairs):
    """The pairs that all answers have that can be and have some pairs, or None if there are no such answers."""
    names = sheet.names()
    some = [answers for answers in can_be(sheet) if have_pairs(names, answers, pairs)]
    if not some:
        return None
    found = []
    for at, ask in enumerate(names):
        if all([answers[at] == some[0][at] for answers in some]):
            found.append((ask, some[0][at]))
    return found


def stuck_step(sheet, table, answers, gone):
    """The least step that lets none behind answers but what is gone, or None."""
    for row in sheet.steps():
        if all([later in gone for later in let_by_any(sheet, table, answers, row[0])]):
            return row[0]
    return None


def out_list(sheet):
    """A list that shows which answers can't be, and why."""
    table, free = let_table(sheet), free_answers(sheet)
    found = [(answers, None) for answers in all_answers(sheet) if answers not in free]
    gone = {answers: True for answers, why in found}
    left, more = free, True
    while more:
        more = False
        for answers in left:
            step = stuck_step(sheet, table, answers, gone)
            if step is not None:
                found.append((answers, step))
                gone[answers] = True
                more = True
        left = [answers for answers in left if answers not in gone]
    return found


def is_reason(sheet, table, answers, why, gone):
    """Whether it shows that answers can't be, those that are gone being out already."""
    if why is None:
        return is_forbidden(sheet, answers)
    if not is_name(why) or why not in [row[0] for row in sheet.steps()]:
        return False
    return all([later in gone for later in let_by_any(sheet, table, answers, why)])


def is_out_list(sheet, thing):
    """Whether a thing is a list that shows of all answers that can't be why."""
    if not isinstance(thing, list):
        return False
    table, gone = let_table(sheet), {}
    for part in thing:
        if not isinstance(part, tuple) or len(part) != 2 or not are_answers(sheet, part[0]):
            return False
        if part[0] in gone or not is_reason(sheet, table, part[0], part[1], gone):
            return False
        gone[part[0]] = True
    # each listed one is out by what is ahead of it, so as many as are out are all of them
    return len(gone) == len(all_answers(sheet)) - len(closed_answers(sheet, table))


def idle_facts(sheet):
    """The indexes of the facts without which, each by itself, the same answers can be and come behind."""
    whole = behind_table(sheet)
    return [at for at, fact in enumerate(sheet.facts()) if behind_table(sheet.without_fact(fact)) == whole]
