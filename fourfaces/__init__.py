"""Fourfaces: a program as text, tree, machine and log book, each led back from the others."""
