"""Shafts: what plain goings lead to between a number, what is below it and what is left up to a roof."""

from lonetill.grades import deed_relation
from lonetill.orbits import orbit_at, orbit_of
from lonetill.relations import closed, followed, image, joined, led_back


class Shaft:
    """The relations of deeds up, level and down, and what comes of them within so much room.

    At 0 there are the "empty" deeds besides: those that stay there, and those up, which stand among the
    first deeds up, or, where all deeds are led back, among the last ones down.
    """

    def __init__(self, relations, first_ups, last_downs):
        self.ups, self.flats, self.downs, self.lasting = relations
        self.first_ups = first_ups
        self.last_downs = last_downs
        self._lids = [closed(self.flats)]
        self._floors = [closed(self.flats)]
        self._whole = {}

    def led_the_other_way(self):
        """The Shaft with all deeds led back."""
        relations = [led_back(relation) for relation in (self.downs, self.flats, self.ups, self.lasting)]
        return Shaft(relations, led_back(self.last_downs), led_back(self.first_ups))

    def _grown(self, word, lots, ahead, behind, number):
        """The relation at the number of a list that is made so long, or up to where all further ones are alike."""
        while number >= len(lots) and word not in self._whole:
            more = closed(joined(self.flats, followed(followed(ahead, lots[-1]), behind)))
            if more == lots[-1]:
                self._whole[word] = True
            else:
                lots.append(more)
        return lots[min(number, len(lots) - 1)]

    def lid(self, room):
        """The lid of so much room."""
        return self._grown("lid", self._lids, self.ups, self.downs, room)

    def floor(self, room):
        """The floor of so much room."""
        return self._grown("floor", self._floors, self.downs, self.ups, room)

    def all_lids(self):
        """The lids up to the first one that is like the next one."""
        self.lid(len(self.flats) * len(self.flats))
        return list(self._lids)

    def all_floors(self):
        """The floors up to the first one that is like the next one."""
        self.floor(len(self.flats) * len(self.flats))
        return list(self._floors)

    def lid_top(self):
        """The room from which on all lids are alike."""
        return len(self.all_lids()) - 1

    def floor_top(self):
        """The room from which on all floors are alike."""
        return len(self.all_floors()) - 1

    def band(self, low, high):
        """What plain goings of gain 0 lead to that fall at most low, and rise at most high."""
        out = self.flats
        if high > 0:
            out = joined(out, followed(followed(self.ups, self.lid(high - 1)), self.downs))
        if low > 0:
            out = joined(out, followed(followed(self.downs, self.floor(low - 1)), self.ups))
        return closed(out)

    def turns_under(self, roof):
        """What goings from 0 to 0 under the roof lead to, "empty" deeds among all."""
        out = joined(self.lid(roof), self.lasting)
        if roof > 0:
            out = joined(out, followed(followed(self.first_ups, self.lid(roof - 1)), self.last_downs))
        return closed(out)

    def climb_relation(self, room):
        """What a deed up, and what has so much room behind it, lead to."""
        return followed(self.ups, self.lid(room))

    def drop_relation(self, room):
        """What has so much room, and a deed down behind it, lead to."""
        return followed(self.lid(room), self.downs)

    def risen(self, mask, low, high, roof):
        """The places at the number high behind the mask's ones at the number low, by climbs under the roof."""
        top = self.lid_top()
        level = max(low, min(high, roof - top))
        if level > low:
            mask = orbit_at(orbit_of(self.climb_relation(top), mask), level - low)
        for number in range(level + 1, high + 1):
            mask = image(self.lid(roof - number), image(self.ups, mask))
        return mask

    def fallen(self, mask, high, low, roof):
        """The places at the number low behind the mask's ones at the number high, by drops under the roof."""
        top = self.lid_top()
        level = min(high, max(low, roof - top))
        for number in range(high, level, -1):
            mask = image(self.downs, image(self.lid(roof - number), mask))
        if level > low:
            mask = orbit_at(orbit_of(self.drop_relation(top), mask), level - low)
        return mask

    def zeros(self, mask, high, roof):
        """The places at 0 to which drops from the mask's places at the number high lead, under the roof."""
        if high == 0:
            return mask
        return image(self.last_downs, image(self.lid(roof - 1), self.fallen(mask, high, 1, roof)))

    def begun(self, zeros, roof):
        """The places at 1 behind a first deed up from the mask's places at 0, under a roof above 0."""
        return image(self.lid(roof - 1), image(self.first_ups, zeros))

    def leads_plain(self, place, start, goal, end, roof):
        """Whether plain goings under the roof, above both numbers, lead from the one stand to the other one."""
        if start <= end:
            risen = self.risen(self.band(start, roof - start)[place], start, end, roof)
            return (risen >> goal) & 1 == 1
        fallen = self.fallen(1 << place, start, end, roof)
        return (image(self.band(end, roof - end), fallen) >> goal) & 1 == 1

    def leads_by_zero(self, place, start, goal, end, roof):
        """Whether goings under the roof, above both numbers, that stand at 0 somewhere lead there."""
        zeros = image(self.turns_under(roof), self.zeros(1 << place, start, roof))
        if end > 0:
            zeros = self.risen(self.begun(zeros, roof), 1, end, roof)
        return (zeros >> goal) & 1 == 1

    def leads(self, place, start, goal, end, roof):
        """Whether the stand (place, start) leads under the roof to the stand (goal, end)."""
        if max(start, end) > roof:
            return False
        return self.leads_plain(place, start, goal, end, roof) or self.leads_by_zero(place, start, goal, end, roof)


def shaft_of(house):
    """The Shaft of a house."""
    ups, flats, downs = [deed_relation(house, change, "any") for change in (1, 0, -1)]
    lasting, lifting = [deed_relation(house, change, "empty") for change in (0, 1)]
    return Shaft([ups, flats, downs, lasting], joined(ups, lifting), downs)
