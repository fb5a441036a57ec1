"""How one layer follows another one (point 23)."""


def broken_place(first, second):
    """Return the first place at which the second layer does not follow the first one, or None."""
    for table, key, _, image in first:
        images = second.images(table, key)
        if images is not None and images[0] != image:
            return (table, key)
    return None


def least_base(first, second):
    """Return the least store on which one layer and then another can lead, or None."""
    if broken_place(first, second) is not None:
        return None
    return first.old.laid_on(second.old.as_store())
