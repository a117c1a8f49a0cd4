"""What edits make of the origins that the places of names mean."""

from truepart.inventory import feature_of, is_copy, path_of, times_of
from truepart.writing import side_names


def renamed(feature, pairs, origin):
    """What an origin becomes whose side gets other names; the feature is the new one."""
    number, occurrences, name = origin
    for side, sides in pairs:
        if side == name:
            return [(number, occurrences, other) for other in sides]
    return [origin] if name in side_names(feature) else []


def after_change(rows, number, feature, pairs, origin):
    """What an origin becomes by the change of the feature with a number; the rows are those in front of it."""
    passed = [k for at, k in path_of(rows, origin) if at == number]
    if not passed:
        return [origin]
    old = feature_of(rows, number)
    if not is_copy(old) and not is_copy(feature):
        return renamed(feature, pairs, origin)
    if is_copy(old) and is_copy(feature) and old["of"] == feature["of"] and passed[0] <= times_of(feature):
        return [origin]
    return []


def after_removal(rows, number, origin):
    """What an origin becomes as the feature with a number is removed; the rows are those in front of it."""
    return [] if number in [at for at, _ in path_of(rows, origin)] else [origin]


def meant_origins(document):
    """The list of all origins that places of names in a document mean, each once."""
    meant = [means for row in document.features for means in row["means"]]
    for row in document.kept:
        meant.append(row["means"])
    return list({origin: True for means in meant for place in means for origin in place})


def replaced_origins(origins, became):
    """The origins that a list of origins becomes, each once."""
    return list({other: True for origin in origins for other in became[origin]})


def replaced_means(means, became):
    """What the places of a name mean behind an edit."""
    return [replaced_origins(origins, became) for origins in means]


def replace_all(document, became):
    """Lets the places of all names of a document mean what their origins became."""
    features = document.features
    document.features = [
        {**row, "means": [replaced_means(means, became) for means in row["means"]]} for row in features]
    document.kept = [{**row, "means": replaced_means(row["means"], became)} for row in document.kept]
