"""What every call keeps to, whatever it makes."""


class Untouchable(list):
    """A list that can't be changed, not for a while either."""

    def refuse(self, *arguments, **named):
        raise AssertionError("what is handed in was changed")

    append = extend = insert = pop = remove = clear = sort = reverse = refuse
    __setitem__ = __delitem__ = __iadd__ = __imul__ = refuse


def each_list(make, arguments):
    return [make(x) if isinstance(x, list) else x for x in arguments]


def check_pure(case, call, *arguments):
    """What is handed in stays as it was, and a second call answers the same."""
    before = each_list(list, arguments)
    first = call(*arguments)
    case.assertEqual(each_list(list, arguments), before)
    kept = list(first)
    # Were the answer kept or handed in, this would show in the second one.
    first.append(7)
    first[0] = 5
    case.assertEqual(call(*arguments), kept)
    case.assertEqual(each_list(list, arguments), before)
    case.assertEqual(call(*each_list(Untouchable, arguments)), kept)


def check_kind(case, answer):
    """A list of whole numbers, a refusal alone."""
    case.assertIs(type(answer), list)
    for x in answer:
        case.assertIs(type(x), int)
    case.assertIn(answer[0], (0, -8, -1, -2))
    case.assertEqual(len(answer) == 1, answer[0] != 0)


def check_same(case, call, native_call, inputs):
    """Each input answered as by the machine; gives back how often each first number came."""
    seen = {}
    for arguments in inputs:
        answer = call(*arguments)
        case.assertEqual(answer, native_call(*arguments), arguments)
        check_kind(case, answer)
        seen[answer[0]] = seen.get(answer[0], 0) + 1
    return seen


def placed(numbers, place, other):
    """A copy with another number at the place."""
    return numbers[:place] + [other] + numbers[place + 1:]


def drawn(source, draw, count):
    return [draw(source) for _ in range(count)]


def same_turned_about(n, below):
    """A table from its rows up to the diagonal."""
    at = {(i, j): below[i * (i + 1) // 2 + j] for i in range(n) for j in range(i + 1)}
    return [at[max(i, j), min(i, j)] for i in range(n) for j in range(n)]
