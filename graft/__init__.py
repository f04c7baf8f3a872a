"""Graftlog: parsing expression grammars that are rewritten step by step."""
