"""Choices of cloths for the patches of a piecing: all in order, the proper ones, and the first of each class."""

MOST_CLOTHS = 8
MOST_CHOICES = 4096

ALL_CHOICES = 0
PROPER_CHOICES = 1

SAME_IF_ONE = 0
SAME_IF_MOVED = 1
SAME_IF_MOVED_AND_CHANGED = 2


# patches: how many; beside: pairs of those that lie beside one another; motions: for each one that keeps the
# piecing, motion 0 too, the list of where each patch goes.
class Piecing:
    def __init__(self, patches, beside, motions):
        self.patches = patches
        self.beside = beside
        self.motions = motions


def how_many_choices(k, patches):
    choices = 1
    for patch in range(patches):
        choices *= k
    return choices


# In order, as each is made longer by the lesser cloth first.
def all_choices(k, patches):
    choices = [[]]
    for patch in range(patches):
        longer = []
        for choice in choices:
            longer.extend([choice + [cloth] for cloth in range(k)])
        choices = longer
    return choices


def is_proper(piecing, choice):
    return all([choice[patch] != choice[other] for patch, other in piecing.beside])


def is_of_which(which, piecing, choice):
    return which == ALL_CHOICES or is_proper(piecing, choice)


def is_choice(which, k, piecing, choice):
    if len(choice) != piecing.patches or any([cloth >= k for cloth in choice]):
        return False
    return is_of_which(which, piecing, choice)


def choice_moved(goes, choice):
    after = list(choice)
    for patch, cloth in enumerate(choice):
        after[goes[patch]] = cloth
    return after


# Cloths named as they come make the first of all choices that differ from this one by the cloths' names alone.
def cloths_named_anew(choice):
    names = {}
    for cloth in choice:
        names.setdefault(cloth, len(names))
    return [names[cloth] for cloth in choice]


# Moved first and named then: what is named anew and then moved would not be named as it comes.
def first_of_its_class(how, piecing, choice):
    if how == SAME_IF_ONE:
        return choice
    motions = [choice_moved(goes, choice) for goes in piecing.motions]
    if how == SAME_IF_MOVED_AND_CHANGED:
        motions = [cloths_named_anew(after) for after in motions]
    return min(motions)


# A proper choice's class holds proper ones alone, so what is left out takes no class's first choice away.
def firsts_of_classes(which, how, k, piecing):
    firsts = []
    for choice in all_choices(k, piecing.patches):
        if is_of_which(which, piecing, choice) and first_of_its_class(how, piecing, choice) == choice:
            firsts.append(choice)
    return firsts
