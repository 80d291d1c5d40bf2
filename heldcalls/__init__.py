"""Heldcalls: can threads deadlock that call hooks while they hold locks."""
