"""Bargaining with outside options and breakdown."""
