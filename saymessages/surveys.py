"""What a language has itself, what it lacks, and what is odd in it: keys, in order by bytes."""

from saymessages.languages import first_on_way


def own_keys(kit, tag):
    return sorted(kit.language_by(tag).messages)


def lacked_keys(kit, tag):
    way = kit.way_of(tag)
    lacked = {}
    for language in way[1:]:
        for key in language.messages:
            if key not in way[0].messages:
                lacked[key] = True
    return sorted(lacked)


# Whether a slot is named as something as which the other message doesn't name it.
def names_more(message, other):
    return any([own & ~others != 0 for own, others in zip(message.named, other.named)])


def odd_keys(kit, tag):
    way = kit.way_of(tag)
    odd = []
    for key in way[0].messages:
        behind = first_on_way(way[1:], key)
        if behind is not None and names_more(way[0].messages[key], behind.message):
            odd.append(key)
    return sorted(odd)
