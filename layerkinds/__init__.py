"""All stackings of so many layers, those that differ but in how they're held counted once."""
