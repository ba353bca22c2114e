"""One program's writes gathered into lines, and what others can see of them."""
