"""Houses with prices, and what goings cost, walked stand by stand under a high roof."""

import heapq
import random

from lonetill.houses import House


def priced_house(seed, places, most_price=9):
    """A house and its prices, many of them 0, that hang on the seed alone."""
    dice = random.Random(seed)
    deeds = []
    for _ in range(dice.randint(places, 2 * places + 2)):
        when = "empty" if dice.random() < 0.25 else "any"
        change = dice.choice([0, 1] if when == "empty" else [-1, 1, -1, 1, 0])
        deed = (dice.randrange(places), change, dice.randrange(places), when)
        if deed not in deeds:
            deeds.append(deed)
    return House(places, deeds), [dice.choice([0, 1, dice.randint(0, most_price)]) for _ in deeds]


def walked_prices(house, prices, stand, top):
    """For each stand that is come to under the top the least price."""
    best, queue, done = {stand: 0}, [(0, stand)], set()
    while queue:
        price, now = heapq.heappop(queue)
        if now in done:
            continue
        done.add(now)
        for (place, change, goal, when), more in zip(house.deeds(), prices):
            number = now[1] + change
            if place != now[0] or not 0 <= number <= top or (when == "empty" and now[1] != 0):
                continue
            if best.get((goal, number), price + more + 1) > price + more:
                best[goal, number] = price + more
                heapq.heappush(queue, (price + more, (goal, number)))
    return best
