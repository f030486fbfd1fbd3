"""Safeturn: changes of programs that mean the same."""
