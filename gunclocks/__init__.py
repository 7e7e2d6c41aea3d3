"""Gunclocks: the hour told from one clock to many."""
