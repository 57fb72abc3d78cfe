"""Evenloads: tasks spread over servers so that no cost of load could be less."""
