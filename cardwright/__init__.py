"""Cardwright: a batch language for records."""
