"""The check of papers on folds."""

from neverhit.checks import is_same
from neverhit.folds import Fold, NoFold, folds_of


def shows_fold(room, ground, value):
    """Whether any value is the Fold of the rows of any fold, or a NoFold where there is none."""
    folds = folds_of(room, ground)
    if isinstance(value, NoFold):
        return not folds
    return isinstance(value, Fold) and any([is_same(value.rows, rows) for rows in folds])
