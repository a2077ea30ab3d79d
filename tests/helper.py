"""What the tests share: calls and their answers as lists, and a second, slow way to work out the rule."""

import random

from detachedrows.proofs import answers

WORKED = (
    "axiom k : x > y > x ; axiom s : ( x > y > z ) > ( x > y ) > x > z ; row a : s, k ; "
    "row i : a, k ; row b : k, i ; goal p > p ; goal q > p > p ; goal p > q ;"
)
FAR = 10 ** 18
# What detach answers where nothing is detached, and what is refused for an item that has no formula.
NOTHING = [0]
NO_FORMULA = [-5]


def load(text):
    """The call load of a text, or of bytes."""
    data = list(text.encode("ascii")) if isinstance(text, str) else list(text)
    return [0, len(data)] + data


def shown():
    return [1]


def formula(item):
    return [2, item]


def sizes(item):
    return [3, item]


def proves(item, goal):
    return [4, item, goal]


def detach(first, second):
    return [5, first, second]


def compare(first, second):
    return [6, first, second]


def needs(item):
    return [7, item]


def goals():
    return [8]


def ask(*calls):
    """The calls' answers, a list each; how many numbers each has is checked against its count."""
    line = [number for call in calls for number in call]
    kept = list(line)
    numbers = answers(line)
    if line != kept:
        raise AssertionError("the list that was handed in is changed")
    if any(type(number) is not int for number in numbers):
        raise AssertionError("something else than a whole number is answered")
    found = []
    at = 0
    while at < len(numbers):
        count = numbers[at]
        found.append(numbers[at + 1:at + 1 + count])
        if len(found[-1]) != count or count < 1:
            raise AssertionError("an answer is not as long as it says")
        at += 1 + count
    if len(found) != len(calls):
        raise AssertionError("there is not one answer for each call")
    return found


def one_form(text):
    """What shown answers when a text is loaded, as a text."""
    loaded, form = ask(load(text), shown())
    if loaded[0] != 1 or form[0] != len(form) - 1:
        raise AssertionError(f"not shown: {loaded} {form[:1]}")
    return bytes(form[1:]).decode("ascii")


def detached(first, second):
    """What is detached from two axioms, told as numbers, or NOTHING; the row has to have the same formula."""
    text = f"axiom a : {first} ; axiom b : {second} ; row r : a, b ;"
    loaded, of_row, result = ask(load(text), formula(2), detach(0, 1))
    if loaded != [1, 2, 1, 0] or of_row != (NO_FORMULA if result == NOTHING else result):
        raise AssertionError(f"loaded {loaded}: the row has {of_row}, but {result} is detached")
    return result


def numbers_of(text):
    """A formula told as numbers."""
    return ask(load(f"axiom a : {text} ;"), formula(0))[1]


# A formula as a tree: ("x", number), ("~", part), (">", part, part).

def tree_of(numbers):
    """The tree of a formula that is told as numbers, without how many signs it has."""
    def take(at):
        if numbers[at] == 0:
            return ("x", numbers[at + 1]), at + 2
        if numbers[at] == 2:
            part, end = take(at + 1)
            return ("~", part), end
        first, middle = take(at + 1)
        second, end = take(middle)
        return (">", first, second), end
    tree, end = take(0)
    if end != len(numbers):
        raise AssertionError("a formula has numbers left over")
    return tree


def told(tree):
    """A tree told as numbers: its unknowns are numbered as they come."""
    unknowns = {}
    numbers = [signs(tree)]

    def tell(part):
        if part[0] == "x":
            numbers.extend([0, unknowns.setdefault(part[1], len(unknowns))])
        else:
            numbers.append(1 if part[0] == ">" else 2)
            for inner in part[1:]:
                tell(inner)
    tell(tree)
    return numbers


def signs(tree):
    if tree[0] == "x":
        return 1
    return 1 + sum(signs(part) for part in tree[1:])


def written(tree, chance=None):
    """A tree as a text: in its one form, or, with a random source, with needless brackets, too."""
    if tree[0] == "x":
        text = f"x{tree[1]}"
    elif tree[0] == "~":
        text = "~ " + bracketed(tree[1], chance)
    else:
        text = bracketed(tree[1], chance) + " > " + written(tree[2], chance)
    if chance is not None and chance.random() < 0.1:
        return f"( {text} )"
    return text


def bracketed(tree, chance):
    text = written(tree, chance)
    return f"( {text} )" if tree[0] == ">" and not is_bracketed(text) else text


def is_bracketed(text):
    """Whether the text's first bracket ends with the text."""
    if text[0] != "(":
        return False
    depth = 0
    for at, sign in enumerate(text):
        depth += (sign == "(") - (sign == ")")
        if depth == 0:
            return at == len(text) - 1
    return False


def put_in(tree, found):
    """A tree with trees put for its unknowns, again and again."""
    if tree[0] == "x":
        return put_in(found[tree[1]], found) if tree[1] in found else tree
    return (tree[0],) + tuple(put_in(part, found) for part in tree[1:])


def renamed(tree, mark):
    if tree[0] == "x":
        return ("x", (mark, tree[1]))
    return (tree[0],) + tuple(renamed(part, mark) for part in tree[1:])


def first_unlike(one, other):
    """The first parts in which two trees are unlike, or None."""
    if one == other:
        return None
    if one[0] == "x" or other[0] == "x" or one[0] != other[0]:
        return one, other
    for first, second in zip(one[1:], other[1:]):
        found = first_unlike(first, second)
        if found is not None:
            return found
    return None


def unknowns_of(tree):
    if tree[0] == "x":
        return {tree[1]}
    return set().union(*(unknowns_of(part) for part in tree[1:]))


def fitted(one, other, most=3000):
    """What is put for which unknown so that both become the same; None if nothing, or far too much."""
    found = {}
    while True:
        unlike = first_unlike(one, other)
        if unlike is None:
            return found
        name, part = unlike if unlike[0][0] == "x" else (unlike[1], unlike[0])
        if name[0] != "x" or name[1] in unknowns_of(part):
            return None
        found[name[1]] = part
        one = put_in(one, {name[1]: part})
        other = put_in(other, {name[1]: part})
        if signs(one) > most or signs(other) > most:
            return None


def detached_slowly(first, second):
    """What is detached from two trees, or None."""
    first = renamed(first, "first")
    second = renamed(second, "second")
    if first[0] == "x":
        return ("x", 0)
    if first[0] == "~":
        return None
    found = fitted(first[1], second)
    if found is None or signs(put_in(first[1], found)) > 1000:
        return None
    rest = put_in(first[2], found)
    return rest if signs(rest) <= 60 else None


def is_instance(tree, pattern, put=None):
    """Whether a tree is an instance of another one."""
    put = {} if put is None else put
    if pattern[0] == "x":
        return put.setdefault(pattern[1], tree) == tree
    if tree[0] != pattern[0]:
        return False
    return all(is_instance(a, b, put) for a, b in zip(tree[1:], pattern[1:]))


def instance_of(tree, put):
    """A tree with other trees put for its unknowns, all at once."""
    if tree[0] == "x":
        return put[tree[1]]
    return (tree[0],) + tuple(instance_of(part, put) for part in tree[1:])


def made_more_general(tree, chance, names):
    """A tree with an unknown in place of some parts, the same for the same ones, or not."""
    if tree[0] == "x" or chance.random() < 0.25:
        return ("x", names.setdefault((tree, chance.randrange(2)), len(names)))
    return (tree[0],) + tuple(made_more_general(part, chance, names) for part in tree[1:])


def some_tree(chance, most, unknowns):
    """A tree of at most so many signs, by chance."""
    if most < 2 or chance.random() < 0.15:
        return ("x", chance.randrange(unknowns))
    if most < 3 or chance.random() < 0.2:
        return ("~", some_tree(chance, most - 1, unknowns))
    first = some_tree(chance, chance.randrange(1, most - 1), unknowns)
    return (">", first, some_tree(chance, most - 1 - signs(first), unknowns))


def chance_of(seed):
    """A source of chance that is the same each time."""
    return random.Random(seed)


def fault(text):
    """The fault's code and place that load tells of a text, or None if it is right."""
    answer = ask(load(text))[0]
    if answer[0] == 1:
        return None
    if answer[0] != 0 or len(answer) != 3:
        raise AssertionError(f"load answers {answer}")
    return tuple(answer[1:])


def fault_at_mark(code, marked):
    """A text without its mark !, the fault's code, and the place where the mark was."""
    return marked.replace("!", ""), (code, marked.index("!"))
