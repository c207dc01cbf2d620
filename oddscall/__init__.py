"""Oddscall: exact chances of programs that call themselves."""
