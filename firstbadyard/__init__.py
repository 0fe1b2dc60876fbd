"""The first bad change: which can be the one that broke it, and which is to be tried next."""
