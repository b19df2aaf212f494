"""Lonetill: one till that never falls below nothing, all beginnings and all ends at once."""
