"""Faults of what's said: nine kinds of faults in a page as it is heard."""
