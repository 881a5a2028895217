"""Whomheeds: what a council says, by whatever weights."""
