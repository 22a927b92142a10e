"""Caseways: a choice of many, led by tables, tests and trees."""
