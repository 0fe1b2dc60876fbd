"""The first bad change: which changes can be the one that broke it."""
