"""Lookcrowd: crowds whose members look at one another."""
