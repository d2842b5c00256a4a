"""Words far apart, whole: words of bits, told by distances, sums and tilts, with a report of what is so."""
