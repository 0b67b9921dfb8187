"""Words: what is in them, which caps do nothing, and the reduced word."""

from partpicks.errors import NoNumber
from partpicks.steps import kinds_in


def own_word(word):
    """The same word, made of tuples throughout."""
    return tuple([tuple(step) for step in word])


def kinds_needed(word):
    """How many kinds hits must have for all eachs of the word."""
    return max(kinds_in(word), default=-1) + 1


def floor_of(word):
    """The greatest number of the floors; None without any."""
    return max([step[1] for step in word if step[0] == "floor"], default=None)


def near_of(word):
    """The least number of the nears; None without any."""
    return min([step[1] for step in word if step[0] == "near"], default=None)


def is_cap(step):
    """Whether the step is a top or an each."""
    return step[0] in ("top", "each")


def caps(word):
    """The tuple of the tops and eachs, in their order."""
    return own_word([step for step in word if is_cap(step)])


def rules_for(ahead, cap, behind):
    """The list of the rules by which the caps ahead of this one and behind it take it out."""
    is_top, number = cap[0] == "top", cap[-1]
    rules = []
    if [step for step in ahead if step[0] == "top" and step[1] <= number]:
        rules.append(1 if is_top else 2)
    if behind and behind[0][0] == "top":
        if is_top and behind[0][1] < number:
            rules.append(3)
        if not is_top and behind[0][1] <= number:
            rules.append(4)
    if ("top", 1) in behind:
        rules.append(5)
    return rules


def takes_out(word):
    """The ascending list of all pairs (rule, place) of a rule that takes out the cap with this place."""
    pairs = []
    for place, step in enumerate(word):
        if is_cap(step):
            rules = rules_for(caps(word[:place]), step, caps(word[place + 1:]))
            pairs.extend([(rule, place) for rule in rules])
    return sorted(pairs)


def without_step(word, place):
    """The word without the step with this place."""
    if not 0 <= place < len(word):
        raise NoNumber(place)
    steps = own_word(word)
    return steps[:place] + steps[place + 1:]


def caps_left(word):
    """The caps that are left when the rules take out caps until none does."""
    left = caps(word)
    pairs = takes_out(left)
    while pairs:
        # Which one goes first does not matter: the same caps are left in the end.
        left = without_step(left, pairs[0][1])
        pairs = takes_out(left)
    return left


def reduced(word):
    """The reduced word."""
    left = caps_left(word)
    ahead = []
    if floor_of(word) is not None:
        ahead.append(("floor", floor_of(word)))
    if near_of(word) is not None and ("top", 1) not in left:
        ahead.append(("near", near_of(word)))
    return tuple(ahead) + left


def is_reduced(word):
    """Whether the reduced word is the word itself."""
    return reduced(word) == own_word(word)


def raised_step(step, number):
    """The step, with so much more if it is a floor."""
    if step[0] == "floor":
        return ("floor", step[1] + number)
    return tuple(step)


def raised_word(word, number):
    """The word with so much more in each floor."""
    return tuple([raised_step(step, number) for step in word])


def turned_step(step, turn):
    """The step, with its kind turned if it is an each."""
    if step[0] == "each":
        return ("each", turn[step[1]], step[2])
    return tuple(step)


def turned_kinds(word, turn):
    """The word with turn[g] as kind wherever g was it."""
    return tuple([turned_step(step, turn) for step in word])
