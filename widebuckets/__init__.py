"""How values are spread: accounts of values, kept in buckets as wide as a part of what's in them."""
