"""What the tests of several modules ask of the interface."""

import inspect


def parameters(function):
    """The names of the parameters, without the method's own object."""
    return [name for name in inspect.signature(function).parameters if name != "self"]


def check_class(case, cls, module, methods):
    """Checks that a class is defined in its file, and each listed method in the class itself.

    `methods` is a dict from the name of each method to the names of its arguments.
    """
    case.assertEqual(cls.__module__, module)
    for name, arguments in methods.items():
        case.assertIn(name, vars(cls))
        case.assertEqual(parameters(vars(cls)[name]), arguments)


def check_function(case, function, module, arguments):
    """Checks that a function is defined in its file, with these names of its arguments."""
    case.assertTrue(inspect.isfunction(function))
    case.assertEqual(function.__module__, module)
    case.assertEqual(parameters(function), arguments)


def check_machine(case, cls, module, arguments):
    """Checks that a machine is defined in its file, is made with these arguments, and has its two methods."""
    case.assertEqual(cls.__module__, module)
    case.assertEqual(parameters(cls), arguments)
    case.assertEqual(parameters(cls.request), [])
    case.assertEqual(len(parameters(cls.accept)), 1)
