"""Paygaps: what can be paid with these coins."""
