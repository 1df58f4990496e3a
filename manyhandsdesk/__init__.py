"""Collections of many hands, which can be joined in any order."""
