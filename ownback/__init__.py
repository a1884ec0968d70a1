"""Ownback: what a shared desk must keep so that each hand can take back its own."""
