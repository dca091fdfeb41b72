"""Ordernest: sets of orders, kept as shared rooms."""
