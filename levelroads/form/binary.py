"""Binary quadratic forms: reduced ones, matrices between alike ones, and class numbers."""

from math import gcd, isqrt

from levelroads.base.numbers import check_bounded, check_integers, check_matrix, is_integer
from levelroads.base.ratios import Ratio
from levelroads.errors import InvalidForm, InvalidMatrix, TooMany
from levelroads.rim.groups import product_matrix
from levelroads.rim.rims import is_matrix, matrix_determinant

MAX_MEASURE = 4000
MAX_SHOWN = 10000


def is_form(value):
    """Whether a value is a form."""
    if not isinstance(value, tuple) or len(value) != 3 or not all([is_integer(entry) for entry in value]):
        return False
    return value[0] > 0 and _measure(value) > 0


def _check_form(form):
    if not is_form(form):
        raise InvalidForm("a form has a first integer above 0 and a measure above 0")


def _check_forms(one, other):
    _check_form(one)
    _check_form(other)


def _measure(form):
    a, b, c = form
    return 4 * a * c - b * b


def measure_of(form):
    """The measure of a form."""
    _check_form(form)
    return _measure(form)


def is_reduced(form):
    """Whether a form is reduced."""
    _check_form(form)
    return _is_reduced(form)


def _is_reduced(form):
    a, b, c = form
    if not -a < b <= a <= c:
        return False
    return a < c or b >= 0


def is_primitive(form):
    """Whether the integers of a form have no common divisor above 1."""
    _check_form(form)
    return _divisor_of(form) == 1


def _divisor_of(form):
    a, b, c = form
    return gcd(gcd(a, b), c)


def value_of(form, x, y):
    """The value of a form at two integers."""
    _check_form(form)
    check_integers((x, y))
    return _value(form, x, y)


def _value(form, x, y):
    a, b, c = form
    return a * x * x + b * x * y + c * y * y


def led_form(form, matrix):
    """The form to which a matrix of the determinant 1 leads a form."""
    _check_form(form)
    check_matrix(matrix)
    if matrix_determinant(matrix) != 1:
        raise InvalidMatrix("the determinant is 1")
    return _led(form, matrix)


def _led(form, matrix):
    a, b, c = form
    p, q, r, s = matrix
    return _value(form, p, r), 2 * a * p * q + b * (p * s + q * r) + 2 * c * r * s, _value(form, q, s)


def reduced_form(form):
    """The reduced form that is alike to a form."""
    _check_form(form)
    return _led(form, _reducing(form))


def reducing_matrix(form):
    """A matrix that leads a form to the reduced one."""
    _check_form(form)
    return _reducing(form)


def _reducing(form):
    a, b, c = form
    p, q, r, s = 1, 0, 0, 1
    while not _is_reduced((a, b, c)):
        if a > c or (a == c and b < 0):
            # The matrix (0, -1, 1, 0).
            a, b, c = c, -b, a
            p, q, r, s = q, -p, s, -r
        else:
            # The matrix (1, steps, 0, 1), with which b comes to stand above -a and at most at a.
            steps = (a - b) // (2 * a)
            b, c = b + 2 * steps * a, c + steps * (b + steps * a)
            q, s = q + steps * p, s + steps * r
    return p, q, r, s


def is_reducing(form, value):
    """Whether a value is a matrix that leads a form to the reduced one."""
    _check_form(form)
    if not is_matrix(value) or matrix_determinant(value) != 1:
        return False
    return _is_reduced(_led(form, value))


def matrices_between(one, other):
    """The ascending tuple of all matrices that lead a form to another one."""
    _check_forms(one, other)
    first, second = _reducing(one), _reducing(other)
    reduced = _led(one, first)
    if _led(other, second) != reduced:
        return ()
    p, q, r, s = second
    found = []
    for keeper in _keepers(reduced):
        found.append(product_matrix(product_matrix(first, keeper), (s, -q, -r, p)))
    return tuple(sorted(found))


def _count_keepers(reduced):
    """How many matrices lead a reduced form to itself."""
    a, b, c = reduced
    if a == c and b == a:
        return 6
    return 4 if a == c and b == 0 else 2


def _keepers(reduced):
    """All matrices that lead a reduced form to itself: the powers of one of them."""
    many = _count_keepers(reduced)
    step = (-1, 0, 0, -1) if many == 2 else (0, -1, 1, 0) if many == 4 else (0, -1, 1, 1)
    found = [step]
    while found[-1] != (1, 0, 0, 1):
        found.append(product_matrix(found[-1], step))
    return found


def are_alike_forms(one, other):
    """Whether two forms are alike."""
    _check_forms(one, other)
    return _led(one, _reducing(one)) == _led(other, _reducing(other))


def weight_of(form):
    """The weight of a form."""
    _check_form(form)
    return Ratio(2, _count_keepers(_led(form, _reducing(form))))


def forms_of(measure):
    """The ascending tuple of all reduced forms of a measure."""
    check_bounded(measure, 1, MAX_MEASURE)
    return _forms(measure)


def _forms(measure):
    found = []
    # In a reduced form 3 a a is at most the measure, and b is even just if the measure is.
    for a in range(1, isqrt(measure // 3) + 1):
        for b in range(measure % 2, a + 1, 2):
            c, rest = divmod(measure + b * b, 4 * a)
            if rest == 0 and c >= a:
                found.append((a, b, c))
                if 0 < b < a < c:
                    found.append((a, -b, c))
    return tuple(sorted(found))


def _primitive_forms(measure):
    return [form for form in _forms(measure) if _divisor_of(form) == 1]


def class_number(measure):
    """The number of the reduced primitive forms of a measure."""
    check_bounded(measure, 1, MAX_MEASURE)
    return len(_primitive_forms(measure))


def weighted_number(measure):
    """The sum of the weights of the reduced primitive forms of a measure."""
    check_bounded(measure, 1, MAX_MEASURE)
    return Ratio(sixfold_number(measure), 6)


def sixfold_number(measure):
    """Six times the weighted number of what surely is an integer of at least 1."""
    return _sixfold_sum(_primitive_forms(measure))


def whole_number(measure):
    """The sum of the weights of all reduced forms of a measure."""
    check_bounded(measure, 1, MAX_MEASURE)
    return Ratio(_sixfold_sum(_forms(measure)), 6)


def _sixfold_sum(forms):
    """Six times the sum of the weights of some reduced forms."""
    # Twelve is a multiple of all numbers of matrices that lead a form to itself.
    return sum([12 // _count_keepers(form) for form in forms])


def count_shown(form, number):
    """At how many pairs of integers without a common divisor a form shows a number."""
    _check_form(form)
    check_bounded(number, 1, MAX_SHOWN)
    if _measure(form) > MAX_MEASURE:
        raise TooMany(MAX_MEASURE)
    # Alike forms show a number equally often, and the values of the reduced one are small at small integers only.
    return _count_shown(_led(form, _reducing(form)), number)


def _count_shown(form, number):
    a, b, _ = form
    measure = _measure(form)
    most = isqrt(4 * a * number // measure)
    many = 0
    for y in range(-most, most + 1):
        # Here 2 a x + b y is a root of this.
        square = 4 * a * number - measure * y * y
        root = isqrt(square)
        if root * root == square:
            for twice in [root, -root] if root else [0]:
                x, rest = divmod(twice - b * y, 2 * a)
                if rest == 0 and gcd(x, y) == 1:
                    many = many + 1
    return many


def count_roots(measure, number):
    """The number of the integers b from 0 to 2 n - 1 with 4 n a divisor of b b + m: n the number, m the measure."""
    check_bounded(measure, 1, MAX_MEASURE)
    check_bounded(number, 1, MAX_SHOWN)
    return len([b for b in range(2 * number) if (b * b + measure) % (4 * number) == 0])
