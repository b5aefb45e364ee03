"""Fresh copies of what is handed in or returned."""


def fresh(value):
    """Returns the value with all lists within it made anew."""
    if isinstance(value, list):
        return [fresh(each) for each in value]
    if isinstance(value, tuple):
        return tuple([fresh(each) for each in value])
    return value
