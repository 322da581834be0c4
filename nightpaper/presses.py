"""The plan by which the fewest sheets are late."""

from nightpaper.planlooks import is_open, slot_rates


class Shop:
    """Sheets handed to slots, and what is left of slots and needs."""

    def __init__(self, presses, needs):
        self.slot_left = slot_rates(presses)
        self.need_left = {need[0]: need[3] for need in needs}
        slots = sorted(self.slot_left)
        self.slots_to = {need[0]: [slot for slot in slots if is_open(need, slot[0], slot[1])] for need in needs}
        self.handed = {slot: {} for slot in slots}

    def come_to(self):
        """What is come to from the needs not wholly printed, by ways of the fewest slots.

        Told are for each need the slot that it is come to by (None where ways begin), for each slot the need, and the
        first slot that has room, None where none has.
        """
        turns = [name for name in self.need_left if self.need_left[name] > 0]
        slot_by = {name: None for name in turns}
        need_by = {}
        done = 0
        while done < len(turns):
            name = turns[done]
            done += 1
            for slot in self.slots_to[name]:
                if slot in need_by:
                    continue
                need_by[slot] = name
                if self.slot_left[slot] > 0:
                    return slot_by, need_by, slot
                # What the slot prints of another need may be handed on to another slot.
                others = [other for other in self.handed[slot] if other not in slot_by]
                slot_by.update({other: slot for other in others})
                turns.extend(others)
        return slot_by, need_by, None

    def bears(self, steps):
        """How many sheets a way bears at once: steps of (need, slot), the last one first."""
        most = min(self.slot_left[steps[0][1]], self.need_left[steps[-1][0]])
        for (need, slot), (ahead, slot_ahead) in zip(steps, steps[1:]):
            most = min(most, self.handed[slot_ahead][need])
        return most

    def hand_on(self, steps):
        """As many sheets as the way bears are handed on from slot to slot."""
        many = self.bears(steps)
        for (need, slot), (ahead, slot_ahead) in zip(steps, steps[1:]):
            self.handed[slot_ahead][need] -= many
            if self.handed[slot_ahead][need] == 0:
                del self.handed[slot_ahead][need]
        for need, slot in steps:
            self.handed[slot][need] = self.handed[slot].get(need, 0) + many
        self.slot_left[steps[0][1]] -= many
        self.need_left[steps[-1][0]] -= many

    def plan(self):
        """What was handed to the slots, as a plan."""
        return sorted([
            (slot[0], slot[1], name, self.handed[slot][name]) for slot in self.handed for name in self.handed[slot]
        ])


def way_to(slot, slot_by, need_by):
    """The steps (need, slot) of the way to a slot, the last one first."""
    steps = []
    while slot is not None:
        need = need_by[slot]
        steps.append((need, slot))
        slot = slot_by[need]
    return steps


def planned(presses, needs):
    """A plan with the fewest sheets late, how many these are, and names of needs whose bound is just that."""
    shop = Shop(presses, needs)
    slot_by, need_by, slot = shop.come_to()
    while slot is not None:
        shop.hand_on(way_to(slot, slot_by, need_by))
        slot_by, need_by, slot = shop.come_to()
    # No slot that is come to has room, and each prints for needs that are come to alone: so their bound is met.
    return shop.plan(), sum(list(shop.need_left.values())), tuple(sorted(slot_by))
