"""Boilers that share one main: how their days go, and what shows it."""
