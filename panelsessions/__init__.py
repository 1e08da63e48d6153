"""Sessions at an interlace artist's desk: panelsessions.record.answers is what is asked."""
