"""Trees kept up by change: a text that is read anew at every step, and names that stay."""
