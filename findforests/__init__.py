"""Findforests: forests in which a find hangs every node of its path on the root."""
