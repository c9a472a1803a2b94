"""Shares dealt to pairs of rules, as many as the prices let, and the cheapest lot that has a rule of each pair."""

from saymakers.kinds import lot_of


class Dealer:
    """Deals shares to pairs (right, left) until no rule can get more of what is left to it."""

    def __init__(self, pairs, prices):
        self.shares = {pair: 0 for pair in pairs}
        self._rest = list(prices)
        self._rights = lot_of([right for right, left in pairs])

    def deal_all(self):
        """Deals as much as can be; the rules that are reached then, and from which."""
        while True:
            came = self._reached()
            ends = [number for number in came if number not in self._rights and self._rest[number]]
            if not ends:
                return came
            self._deal(came, ends[0])

    def _reached(self):
        """Each rule that can hand something on to another side, and the rule that it is reached from.

        A right rule reaches all that it shares a pair with; a left one those that it has shares with.
        """
        came = {number: None for number in self._rights if self._rest[number]}
        queue = list(came)
        while queue:
            number = queue.pop(0)
            for right, left in self.shares:
                if right == number and left not in came:
                    came[left] = right
                    queue.append(left)
                elif left == number and right not in came and self.shares[(right, left)]:
                    came[right] = left
                    queue.append(right)
        return came

    def _deal(self, came, end):
        """Deals as much as the way to the end lets."""
        way = [end]
        while came[way[-1]] is not None:
            way.append(came[way[-1]])
        way.reverse()
        given = list(zip(way[0::2], way[1::2]))
        taken = list(zip(way[2::2], way[1::2]))
        many = min([self._rest[way[0]], self._rest[end]] + [self.shares[pair] for pair in taken])
        for pair in given:
            self.shares[pair] += many
        for pair in taken:
            self.shares[pair] -= many
        self._rest[way[0]] -= many
        self._rest[end] -= many


def dealt_shares(pairs, prices):
    """(the cheapest lot with a rule of each pair, ascending (right, left, share) of the same sum)."""
    dealer = Dealer(pairs, prices)
    came = dealer.deal_all()
    # What is left to no right rule must be struck there, else its left rules are.
    lot = {right: True for right, left in pairs if right not in came}
    lot.update({left: True for right, left in pairs if left in came})
    shares = [(right, left, share) for (right, left), share in dealer.shares.items() if share]
    return tuple(sorted(lot)), tuple(sorted(shares))
