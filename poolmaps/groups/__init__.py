"""Groups of webs, and agreement."""
