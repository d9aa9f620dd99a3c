"""A compiler for long folds over an operation that is associative only in part."""
