"""Presses and needs looked at: whether anything is a plan, and how many sheets must be late."""

from nightpaper.errors import Unknown
from nightpaper.words import is_whole

ENTRY_PARTS = 4


def slot_rates(presses):
    """The rates of all slots that have one, by (press, hour), those of rate 0 left out."""
    rates = {}
    for name, hours in presses:
        for hour, rate in enumerate(hours):
            if rate > 0:
                rates[(name, hour)] = rate
    return rates


def is_open(need, press, hour):
    """Whether a slot is open to a need."""
    name, first, due, many, bars = need
    return first <= hour < due and press not in bars


def is_entry(thing):
    """Whether anything is a tuple of two texts, a whole number between, and a whole number from 1 on."""
    if not isinstance(thing, tuple) or len(thing) != ENTRY_PARTS:
        return False
    press, hour, need, many = thing
    if not isinstance(press, str) or not isinstance(need, str):
        return False
    return is_whole(hour) and is_whole(many) and many >= 1


def is_rising(entries):
    """Whether entries are sorted, no (press, hour, need) among them twice."""
    slots = [entry[:3] for entry in entries]
    return all([one < other for one, other in zip(slots, slots[1:])])


def borne(presses, needs, entries):
    """Whether the slots, each open to its need, bear all entries, and no need has more than it is."""
    rates = slot_rates(presses)
    asked = {need[0]: need for need in needs}
    wanted = {need[0]: need[3] for need in needs}
    for press, hour, name, many in entries:
        if name not in asked or not is_open(asked[name], press, hour):
            return False
        rates[(press, hour)] = rates.get((press, hour), 0) - many
        wanted[name] -= many
        if rates[(press, hour)] < 0 or wanted[name] < 0:
            return False
    return True


def plan_late(presses, needs, thing):
    """How many sheets are late by anything that is a plan; None where it is none."""
    if not isinstance(thing, list) or not all([is_entry(entry) for entry in thing]):
        return None
    if not is_rising(thing) or not borne(presses, needs, thing):
        return None
    return sum([need[3] for need in needs]) - sum([entry[3] for entry in thing])


def named_needs(needs, names):
    """The needs of these names, each once; Unknown of the first name that is no need's."""
    asked = {need[0]: need for need in needs}
    for name in names:
        if name not in asked:
            raise Unknown(name)
    return [need for need in needs if need[0] in names]


def slots_of(presses, needs, names):
    """The slots that are open to some of the needs of these names, sorted, those of rate 0 left out."""
    some = named_needs(needs, names)
    rates = slot_rates(presses)
    return [slot for slot in sorted(rates) if any([is_open(need, slot[0], slot[1]) for need in some])]


def bound(presses, needs, names):
    """How many sheets of the needs of these names are more than all slots open to some of them can print."""
    rates = slot_rates(presses)
    sheets = sum([need[3] for need in named_needs(needs, names)])
    return sheets - sum([rates[slot] for slot in slots_of(presses, needs, names)])
