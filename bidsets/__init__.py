"""Things sold to bidders; the functions are in bidsets.selling."""
