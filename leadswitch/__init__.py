"""Leadswitch: leads that are switched one by one."""
