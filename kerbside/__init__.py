"""Kerbside: what is known of loads that nobody has seen whole."""
