"""Clausewood: sentences taken apart by the rules of a small grammar."""
