"""Learnt, marked, kept: clauses under marks, and a search that learns from where it goes wrong."""
