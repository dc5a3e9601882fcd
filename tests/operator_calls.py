"""Which names that are a method here and an attribute there are called in what an operator or a property runs."""

import ast

NO_OPERATORS = {"__init__", "__call__", "__iter__", "__enter__", "__exit__"}


def unclear_calls(texts):
    """The calls that LANGUAGE.md forbids in L18, as tuples (file, row, name) in order; the texts go by their files.

    Calls are followed by their names alone: to each function, method and class of the package
    that has the name. So what a name may stand for is looked at, too.
    """
    trees = {file: ast.parse(text) for file, text in texts.items()}
    unclear = _methods(trees) & _attributes(trees)
    told = _told(trees)
    found, seen, waiting = [], set(), _operators(trees)
    while waiting:
        file, body = waiting.pop()
        if body not in seen:
            seen.add(body)
            found += [(file, row, name) for name, row in _called_methods(body) if name in unclear]
            waiting += [place for name in _names_met(body, unclear) for place in told.get(name, [])]
    return sorted(set(found))


def _classes(trees):
    return [(file, node) for file, tree in trees.items() for node in ast.walk(tree) if isinstance(node, ast.ClassDef)]


def _functions_of(node):
    return [inner for inner in node.body if isinstance(inner, ast.FunctionDef)]


def _is_property(function):
    return "property" in [ast.unparse(node) for node in function.decorator_list]


def _is_setter(function):
    return any(ast.unparse(node).endswith(".setter") for node in function.decorator_list)


def _methods(trees):
    """The names of methods; properties and their setters are none."""
    return {function.name for _, node in _classes(trees) for function in _functions_of(node)
            if not _is_property(function) and not _is_setter(function)}


def _attributes(trees):
    """The names of attributes that are assigned, by whatever statement."""
    return {node.attr for tree in trees.values() for node in ast.walk(tree)
            if isinstance(node, ast.Attribute) and isinstance(node.ctx, ast.Store)}


def _operators(trees):
    """The operators and the properties of all classes, with their files."""
    return [(file, function) for file, node in _classes(trees) for function in _functions_of(node)
            if _is_property(function) or function.name.startswith("__") and function.name not in NO_OPERATORS]


def _told(trees):
    """What runs when a name is called: the functions of that name; of a class its __init__ and those above it."""
    told = {}
    for file, tree in trees.items():
        for node in ast.walk(tree):
            # Methods with two underscores are not called by name: operators are looked at anyway.
            if isinstance(node, ast.FunctionDef) and not node.name.startswith("__"):
                told.setdefault(node.name, []).append((file, node))
            if isinstance(node, ast.ClassDef):
                runs = [function for function in _functions_of(node) if function.name == "__init__"] + node.bases
                told.setdefault(node.name, []).extend([(file, body) for body in runs])
    return told


def _called_methods(body):
    """The names that are called off something, with their rows."""
    return [(node.func.attr, node.lineno) for node in ast.walk(body)
            if isinstance(node, ast.Call) and isinstance(node.func, ast.Attribute)]


def _names_met(body, unclear):
    """The names that are called or handed on; an unclear one that is only read is taken for the attribute."""
    read = [node.attr for node in ast.walk(body) if isinstance(node, ast.Attribute) and node.attr not in unclear]
    bare = [node.id for node in ast.walk(body) if isinstance(node, ast.Name)]
    return [name for name, _ in _called_methods(body)] + read + bare
