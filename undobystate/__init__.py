"""Undobystate: earlier commands undone by the present state alone."""
