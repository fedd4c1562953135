"""boundagain: loose leaves put back into the books that agree with what was seen of them."""
