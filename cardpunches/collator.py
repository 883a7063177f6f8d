"""The collator: two decks in sequence run past one another."""

from cardpunches.cards import comes_before
from cardpunches.cards import is_field

MERGED = 0
MATCHED = 1
MERGED_WHERE_MATCHED = 2


def is_collation(c, e, n, how):
    return is_field(c, n) and is_field(e, n) and MERGED <= how and how <= MERGED_WHERE_MATCHED


def merge(first, c, second, e, n):
    merged = []
    i = 0
    j = 0
    while i < len(first) and j < len(second):
        if comes_before(second[j], e, first[i], c, n):
            merged.append(second[j])
            j += 1
        else:
            merged.append(first[i])
            i += 1
    return merged + first[i:] + second[j:]


def fields_of(deck, c, n):
    # Columns have the same rank only if they have the same holes, so alike means the same holes.
    fields = {}
    for card in deck:
        fields[tuple(card[c:c + n])] = True
    return fields


def cards_like(deck, c, n, fields):
    return [card for card in deck if tuple(card[c:c + n]) in fields]


def cards_unlike(deck, c, n, fields):
    return [card for card in deck if tuple(card[c:c + n]) not in fields]


def collate(first, second, c, e, n, how):
    """The four pockets; the decks are in sequence by (c, n) and by (e, n)."""
    if how == MERGED:
        return [merge(first, c, second, e, n), [], [], []]
    first_fields = fields_of(first, c, n)
    second_fields = fields_of(second, e, n)
    first_alone = cards_unlike(first, c, n, second_fields)
    first_like = cards_like(first, c, n, second_fields)
    second_like = cards_like(second, e, n, first_fields)
    second_alone = cards_unlike(second, e, n, first_fields)
    if how == MATCHED:
        return [first_alone, first_like, second_like, second_alone]
    return [first_alone, merge(first_like, c, second_like, e, n), [], second_alone]
