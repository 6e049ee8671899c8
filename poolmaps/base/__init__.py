"""Webs and pools of webs."""
