"""What several tests use: a check of refusals, and things of all kinds."""

import copy

from precread import errors

REFUSALS = (errors.NoWord, errors.NoTelling, errors.Clash,
            errors.NoPart, errors.NoTree, errors.TooMuch)


def check_refused(case, refusal, function, *given):
    """The call is refused by just this refusal, each time, and leaves what it was given."""
    before = copy.deepcopy(given)
    for _ in range(2):
        with case.assertRaises(errors.ReadError) as caught:
            function(*given)
        told = [kind for kind in REFUSALS if isinstance(caught.exception, kind)]
        case.assertEqual(told, [refusal], given)
        case.assertIsInstance(caught.exception, ValueError)
    case.assertEqual(given, before)


def check_same(case, found, wanted):
    """Equal, and of the same kinds throughout: 1 is not True, and a list is no tuple."""
    case.assertEqual(repr(found), repr(wanted))
