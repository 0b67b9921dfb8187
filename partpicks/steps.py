"""Steps and words: what they leave of hits, and why a hit is not picked."""

from partpicks.errors import NoKind
from partpicks.hits import hit_of, kinds, labels_of, name_set, names_of, ranked, with_hit, without_hit
from partpicks.things import is_number


def is_step(thing):
    """Whether it is a floor, a near, an each or a top with its numbers."""
    if not (isinstance(thing, tuple) and all([is_number(number) for number in thing[1:]])):
        return False
    if len(thing) == 3:
        return thing[0] == "each" and 0 <= thing[1] <= 2 and thing[2] >= 1
    if len(thing) != 2:
        return False
    first, number = thing
    return first == "floor" or (first == "near" and number >= 0) or (first == "top" and number >= 1)


def is_word(thing):
    """Whether it is a tuple of steps, no two eachs of which have the same kind."""
    if not (isinstance(thing, tuple) and all([is_step(step) for step in thing])):
        return False
    return len(set(kinds_in(thing))) == len(kinds_in(thing))


def kinds_in(word):
    """The tuple of the kinds in the steps, in their order."""
    return tuple([step[1] for step in word if step[0] == "each"])


def check_kinds(hits, word):
    """Raise NoKind for the first kind in the word that the hits have not; of no hits nothing is asked."""
    for kind in kinds_in(word):
        if hits and kind >= kinds(hits):
            raise NoKind(kind)


def best_of_each(rank, kind, many):
    """Of hits that stand best first the best ones of each label of this kind, so many of each."""
    found = {}
    left = []
    for hit in rank:
        label = hit[2][kind]
        found[label] = found.get(label, 0) + 1
        if found[label] <= many:
            left.append(hit)
    return left


def left_by(rank, step):
    """What the step leaves of hits that stand best first; they still do then."""
    if step[0] == "floor":
        return [hit for hit in rank if hit[1] >= step[1]]
    if step[0] == "near":
        return [hit for hit in rank if rank[0][1] - hit[1] <= step[1]]
    if step[0] == "each":
        return best_of_each(rank, step[1], step[2])
    return rank[:step[1]]


def ranks_along(hits, word):
    """The list of what there is ahead of the first step and behind each one, best first."""
    check_kinds(hits, word)
    ranks = [ranked(hits)]
    for step in word:
        ranks.append(left_by(ranks[-1], step))
    return ranks


def picked(hits, word):
    """The set of the names that the word picks."""
    return name_set(ranks_along(hits, word)[-1])


def page(hits, word):
    """The tuple of the names that the word picks, the best hit first."""
    return names_of(ranks_along(hits, word)[-1])


def left_along(hits, word):
    """The list of the sets of names that the single steps leave."""
    return [name_set(rank) for rank in ranks_along(hits, word)[1:]]


def best_left_out(hits, word):
    """The best hit that is not picked; None if each one is."""
    ranks = ranks_along(hits, word)
    for hit in ranks[0]:
        if hit not in ranks[-1]:
            return hit[0]
    return None


def goes_at(hits, word, name):
    """The place of the step that gets this hit and does not leave it; None if it is picked."""
    left = left_along(hits, word)
    hit_of(hits, name)
    for place, names in enumerate(left):
        if name not in names:
            return place
    return None


def barred_by(hits, word, name):
    """The set of the hits by which this one goes where it goes; () if it is picked."""
    place = goes_at(hits, word, name)
    if place is None or word[place][0] == "floor":
        return ()
    ranks = ranks_along(hits, word)
    if word[place][0] == "near":
        return names_of(ranks[place][:1])
    if word[place][0] == "top":
        return name_set(ranks[place + 1])
    kind = word[place][1]
    label = labels_of(hits, name)[kind]
    return name_set([hit for hit in ranks[place + 1] if hit[2][kind] == label])


def turning_scores(others, word):
    """The ascending list of the scores, of one hit beside these, at which it may begin to be picked.

    Whether a hit is left hangs on the better ones alone, so what counts is
    whom it passes, with one score or the next, and what floors and nears ask.
    """
    scores = [step[1] for step in word if step[0] == "floor"]
    for hit in others:
        scores.extend([hit[1], hit[1] + 1])
        scores.extend([hit[1] - step[1] for step in word if step[0] == "near"])
    return sorted(scores)


def score_needed(hits, word, name):
    """The least score with which this hit would be picked; None if there is no least one."""
    check_kinds(hits, word)
    labels = labels_of(hits, name)
    others = without_hit(hits, name)
    scores = turning_scores(others, word)
    if not scores or name in picked(with_hit(others, name, scores[0] - 1, labels), word):
        return None
    return min([score for score in scores if name in picked(with_hit(others, name, score, labels), word)])
