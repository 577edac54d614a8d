"""Backrun: reversible programs, machines and circuits."""
