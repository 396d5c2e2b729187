"""Textatrest: what a shared text may throw away, exactly, with witnesses."""
