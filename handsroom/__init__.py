"""Handsroom: hands, locks and the ends of guards.

Import everything from the module that defines it; this file binds no names.
"""
