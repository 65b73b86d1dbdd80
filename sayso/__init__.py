"""Sayso: machines and logic, made out of one another."""
