"""Texts in wide characters: classes, cases, columns, order, patterns, literals."""
