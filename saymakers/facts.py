"""What follows from facts, which facts are wanted for it, and rules as facts."""

from saymakers.books import need_book
from saymakers.closed import ClosedLot, breaks, filled_rules
from saymakers.court import need_calm
from saymakers.errors import InvalidFacts, InvalidSheet, InvalidSize
from saymakers.forms import beside, formed_sheet
from saymakers.kinds import is_number_below, is_sequence
from saymakers.needs import need_own_sayings, need_own_sheet, need_own_sheets
from saymakers.numbered import Numbered, bit_total
from saymakers.proofreader import need_facts
from saymakers.proofs import joined_sayings, proof_holds
from saymakers.sayings import need_sheet, sheet_text
from saymakers.shorten import lies_in
from saymakers.trees import Follower, world_against
from saymakers.worlds import are_told, is_kept, own_truths

_MOST_FACTS = 40
_MOST_SAYINGS = 14
_MOST_REASONS = 8
_MOST_GOALS = 4
_MOST_FOR_REASONS = 10
_EMPTY = ((), ())


def _need_few(values, most):
    """A sequence of facts that are not too many."""
    if not is_sequence(values) or len(values) > most:
        raise InvalidFacts(-1)
    return values


def _lot_of_sheets(book, sheets, most):
    """The lot of all sayings of the sheets and their parts, not more than so many."""
    lot = ClosedLot(book, [saying for sheet in sheets for side in sheet for saying in side])
    if len(lot.sayings) > most:
        raise InvalidSize("sayings")
    return lot


def _need_follow(book, facts, sheet):
    """(the facts, the sheet, the lot of all of them), of a calm book."""
    told = need_facts(need_book(book), _need_few(facts, _MOST_FACTS))
    whole = need_own_sheet(book, sheet)
    lot = _lot_of_sheets(book, told + (whole,), _MOST_SAYINGS)
    need_calm(book)
    return told, whole, lot


def follow_paper(book, facts, sheet):
    """A tree of facts and proofs, or a world that keeps all facts and not the sheet."""
    told, whole, lot = _need_follow(book, facts, sheet)
    world = world_against(lot, told, whole)
    if world is not None:
        return ("world", lot.world_pairs(world))
    left, right = lot.sheet_bits(whole)
    follower = Follower(lot, told)
    return ("tree", follower.told_tree(follower.tree(left, right)))


def follow_holds(book, facts, sheet, value):
    """Whether the value is such a paper; a world may have more sayings."""
    told, whole, lot = _need_follow(book, facts, sheet)
    if not isinstance(value, tuple) or len(value) != 2:
        return False
    if value[0] == "tree":
        return _is_tree(book, told, whole, value[1], ())
    return value[0] == "world" and _is_against(book, told, whole, value[1])


def _is_against(book, facts, sheet, value):
    """Whether the value is a world with all the sayings that keeps the facts and not the sheet."""
    truths = own_truths(book, value)
    if truths is None or not all([are_told(truths, each[0] + each[1]) for each in facts + (sheet,)]):
        return False
    return all([is_kept(truths, fact) for fact in facts]) and not is_kept(truths, sheet)


def _is_tree(book, facts, sheet, value, taken):
    """Whether the value is a tree of the sheet in which none of the taken facts comes again."""
    if not isinstance(value, tuple) or not value:
        return False
    if value[0] == "plain":
        return len(value) == 2 and proof_holds(book, sheet, value[1]) and not joined_sayings(book, value[1])
    if value[0] != "fact" or len(value) != 3 or not is_number_below(value[1], len(facts)) or value[1] in taken:
        return False
    sheets = _taken(sheet, facts[value[1]])
    if not isinstance(value[2], tuple) or len(value[2]) != len(sheets):
        return False
    more = taken + (value[1],)
    return all([_is_tree(book, facts, each, tree, more) for each, tree in zip(sheets, value[2])])


def _taken(sheet, fact):
    """The sheet with each saying of the fact put beside it on the other side, left ones first."""
    rights = [beside(sheet, ((), (saying,))) for saying in fact[0]]
    return tuple(rights + [beside(sheet, ((saying,), ())) for saying in fact[1]])


def taken_sheets(sheet, fact):
    """The sheets of the trees of a fact that is taken for the sheet."""
    whole = need_sheet(sheet, 0)
    return _taken(whole, need_sheet(fact, 1))


def _need_told(facts):
    """The facts, any sheets in order."""
    told = []
    for at, value in enumerate(_need_few(facts, _MOST_FACTS)):
        fact = formed_sheet(value)
        if fact is None:
            raise InvalidFacts(at)
        told.append(fact)
    return told


def _put_together(sheets, choices):
    """Each sheet with each choice beside it, in bits, each once, without those with a bit on both sides."""
    found = {}
    for left, right in sheets:
        for more_left, more_right in choices:
            whole = (left | more_left, right | more_right)
            if not whole[0] & whole[1]:
                found[whole] = True
    return list(found)


def _least(sheets):
    """The sheets, in bits, within which no other one lies."""
    sized = sorted([(bit_total(left) + bit_total(right), left, right) for left, right in sheets])
    least = []
    for size, left, right in sized:
        if not any([less < size and lies_in(one, other, left, right) for less, one, other in least]):
            least.append((size, left, right))
    return [(left, right) for size, left, right in least]


def _by_texts(numbered, sheets):
    """The sheets of these bits, ascending by their texts."""
    told = {sheet_text(sheet): sheet for sheet in [numbered.sheet_of(left, right) for left, right in sheets]}
    return tuple([told[text] for text in sorted(told)])


def unfolded_sheets(facts, sheet):
    """The least sheets, in place of the facts, each of which must have a proof for the sheet to follow."""
    told = _need_told(facts)
    numbered = Numbered()
    sheets = _put_together([numbered.sheet_bits(need_sheet(sheet))], [(0, 0)])
    for fact in told:
        left, right = numbered.sheet_bits(fact)
        choices = [(0, 1 << at) for at in range(left.bit_length()) if left >> at & 1]
        choices.extend([(1 << at, 0) for at in range(right.bit_length()) if right >> at & 1])
        # What has a lesser sheet within it here comes to sheets with a lesser one within them.
        sheets = _least(_put_together(sheets, choices))
    return _by_texts(numbered, sheets)


def joined_proof(book, facts, sheet):
    """A proof of the sheet from the facts with joins on their sayings alone; None if it does not follow."""
    told, whole, lot = _need_follow(book, facts, sheet)
    if world_against(lot, told, whole) is not None:
        return None
    left, right = lot.sheet_bits(whole)
    follower = Follower(lot, told)
    return follower.joined_proof(follower.tree(left, right))


def _need_reasons(book, facts, goals):
    """(the facts, the goals, the lot of all of them), of a calm book."""
    told = need_facts(need_book(book), _need_few(facts, _MOST_REASONS))
    if not is_sequence(goals) or not 1 <= len(goals) <= _MOST_GOALS:
        raise InvalidSheet(-1)
    sheets = need_own_sheets(book, goals)
    lot = _lot_of_sheets(book, told + sheets, _MOST_FOR_REASONS)
    need_calm(book)
    return told, sheets, lot


def _breaches(lot, facts, goals):
    """(facts that it does not keep as bits, world) for each world of the lot that does not keep some goal."""
    told = [lot.sheet_bits(fact) for fact in facts]
    wanted = [lot.sheet_bits(goal) for goal in goals]
    found = []
    for world in lot.worlds():
        if any([breaks(world, goal) for goal in wanted]):
            found.append((sum([1 << at for at, fact in enumerate(told) if breaks(world, fact)]), world))
    return found


def _lot_of_facts(bits):
    """The numbers of these bits, ascending."""
    return tuple([at for at in range(bits.bit_length()) if bits >> at & 1])


def reason_lots(book, facts, goals):
    """The lots of facts from which all goals follow while none can be left out, ascending."""
    told, sheets, lot = _need_reasons(book, facts, goals)
    breaches = {bits: True for bits, world in _breaches(lot, told, sheets)}
    enough = [(bits, 0) for bits in range(1 << len(told)) if all([bits & breach for breach in breaches])]
    return tuple(sorted([_lot_of_facts(bits) for bits, none in _least(enough)]))


def _least_breaches(lot, facts, goals):
    """(lot of facts, first world that keeps just the others) for each least lot, ascending."""
    breaches = _breaches(lot, facts, goals)
    firsts = {}
    for bits, world in breaches:
        firsts.setdefault(bits, world)
    least = _least([(bits, 0) for bits in firsts])
    return sorted([(_lot_of_facts(bits), lot.world_pairs(firsts[bits])) for bits, none in least])


def break_lots(book, facts, goals):
    """The least lots of facts of which a world that does not keep some goal keeps none, and the first such worlds."""
    told, sheets, lot = _need_reasons(book, facts, goals)
    return tuple(_least_breaches(lot, told, sheets))


def peace_lots(book, facts):
    """The greatest lots of facts that some world keeps, ascending."""
    told = need_facts(need_book(book), _need_few(facts, _MOST_REASONS))
    lot = _lot_of_sheets(book, told, _MOST_FOR_REASONS)
    need_calm(book)
    broken = [numbers for numbers, world in _least_breaches(lot, told, (_EMPTY,))]
    return tuple(sorted([tuple([at for at in range(len(told)) if at not in numbers]) for numbers in broken]))


def rule_sheets(book, sayings):
    """The sheets that truths must keep to be worlds, ascending by their texts."""
    lot = ClosedLot(book, need_own_sayings(need_book(book), sayings))
    found = []
    for rule in filled_rules(lot):
        sheets = [(rule.left, rule.right)]
        for left, right in rule.premises:
            choices = [(1 << at, 0) for at in range(right.bit_length()) if right >> at & 1]
            choices.extend([(0, 1 << at) for at in range(left.bit_length()) if left >> at & 1])
            sheets = _put_together(sheets, choices)
        found.extend(sheets)
    return _by_texts(lot, found)
