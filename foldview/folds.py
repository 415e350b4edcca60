"""Folds: pairs of a first line and the line behind the last one."""


def hides(fold, line):
    return fold[0] < line < fold[1]


def has_line(fold, line):
    return fold[0] <= line < fold[1]


def is_hidden(folds, line):
    for fold in folds:
        if hides(fold, line):
            return True
    return False


def is_within(fold, other):
    return other[0] <= fold[0] and fold[1] <= other[1]


def is_apart(fold, other):
    return fold[1] <= other[0] or other[1] <= fold[0]


def clashes(fold, other):
    if fold == other:
        return True
    return not (is_apart(fold, other) or is_within(fold, other) or is_within(other, fold))


def fold_after_edit(fold, begin, behind, grown):
    """The fold once the lines from begin to behind have become so many more, or None if it goes."""
    if fold[1] <= begin:
        return fold
    if fold[0] >= behind:
        return (fold[0] + grown, fold[1] + grown)
    if fold[0] < begin and behind <= fold[1] and fold[1] + grown - fold[0] >= 2:
        return (fold[0], fold[1] + grown)
    return None


def folds_after_edit(folds, begin, behind, grown):
    kept = []
    for fold in folds:
        moved = fold_after_edit(fold, begin, behind, grown)
        if moved is not None and moved not in kept:
            kept.append(moved)
    return kept
