"""How often each letter stands in the words that a grammar says."""
