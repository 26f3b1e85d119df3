"""Words that lost a letter, or gained one, and codes that put it right."""
