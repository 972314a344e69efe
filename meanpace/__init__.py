"""Meanpace: meetings that wait for one another, and their pace."""
