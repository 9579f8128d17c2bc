"""Writeways: near rooms before a slow one."""
