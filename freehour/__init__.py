"""Freehour: the first hour that all have free."""
