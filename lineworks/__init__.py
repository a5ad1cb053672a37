"""Lineworks: pipelines of tables, and the conditions under which their rows come out."""
