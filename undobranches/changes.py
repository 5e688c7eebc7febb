"""What a change does to a text and to a region of it.

A change is a tuple: its position, how many bytes it removes from there on, and the bytes that it inserts there.
"""

from undobranches.refusals import RegionOverlapped


def text_after(text, change):
    """The text that results from a change; the one that is handed in stays as it is."""
    position, removed, inserted = change
    return text[:position] + inserted + text[position + removed:]


def region_start_after(start, length, change):
    """Where a region starts after a change; its length stays the same."""
    position, removed, inserted = change
    if position >= start + length:
        return start
    if position + removed <= start:
        return start + len(inserted) - removed
    raise RegionOverlapped()


def origins_after(origins, change, number):
    """The origins of a text's bytes after a change of the state with this number."""
    position, removed, inserted = change
    return text_after(origins, (position, removed, [number] * len(inserted)))
