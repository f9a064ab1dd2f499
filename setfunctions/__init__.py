"""Functions on sets: setfunctions.tools.answers(calls) answers a list of calls."""
