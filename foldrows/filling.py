"""Words put on rows, as many on each as it can have."""


def filled(words, room):
    rows = []
    used = 0
    for word in words:
        grown = used + 1 + len(word)
        if rows and grown <= room:
            rows[-1].append(word)
            used = grown
        else:
            # A word that is longer than the room has to stand somewhere: by itself on a row.
            rows.append([word])
            used = len(word)
    return rows
