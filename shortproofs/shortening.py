"""Texts made short."""

from shortproofs.texts import Text, first_with_instance, needed_rows, targets


def merge_row(text, number, become, result):
    """Puts a row of the text into the result, if it's kept; answers the item that it becomes there, or None."""
    source = text.sources[number]
    first = become[source[0]]
    second = become[source[1]]
    if first is None or second is None:
        return None
    formula = result.detached_from((first, second))
    if formula is None:
        return None
    earlier = first_with_instance(result, formula)
    if earlier is not None:
        return earlier
    result.add_item(text.names[number], (first, second), formula)
    return len(result.names) - 1


def merged(text):
    """The text, merged."""
    result = Text()
    result.goals.extend(text.goals)
    become = []
    for number, source in enumerate(text.sources):
        if source is None:
            result.add_item(text.names[number], None, text.formulas[number])
            become.append(number)
        else:
            become.append(merge_row(text, number, become, result))
    return result


def with_rows_alone(text, rows):
    """The text with its axioms, its goals, and these rows alone; all that they are detached from is among them."""
    result = Text()
    result.goals.extend(text.goals)
    become = {}
    for number, source in enumerate(text.sources):
        if source is None:
            become[number] = len(result.names)
            result.add_item(text.names[number], None, text.formulas[number])
        elif number in rows:
            become[number] = len(result.names)
            new_source = (become[source[0]], become[source[1]])
            result.add_item(text.names[number], new_source, text.formulas[number])
    return result


def shortened(text):
    """The text, shortened."""
    short = merged(text)
    return with_rows_alone(short, needed_rows(short, targets(short)))
