"""Words by distances: farwords.sums.answers is what is called."""
