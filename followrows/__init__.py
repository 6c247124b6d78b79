"""Followrows: clauses along rows of any length."""
